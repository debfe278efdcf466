"""Sweets for children in a row or a ring: fair shares, the fewest sweets, and why."""
