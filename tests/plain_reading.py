"""The document's words, call by call, over the plain search: sharing nothing with the program."""

from plain_search import best_exchange, best_order, changed_places, fewest_by_chains, judged, longest_chains
from plain_search import marks_with, ways_of_cutting, what_would_be

NAMES = ("begin", "fewest", "chain", "judge", "count", "order", "exchange", "would", "mark", "swap", "look")


class PlainReading:
    def __init__(self):
        self.children = None

    def told(self, call):
        """The answer to one call, written as the interface tells."""
        name = NAMES[call[0]]
        if name == "begin":
            return self.begin(call[1], tuple(call[3:]))
        if self.children is None:
            return [-9]
        handed = [tuple(call[2:])] if name == "judge" else call[1:]
        return getattr(self, name)(*self.children, *handed)

    def begin(self, ring, marks):
        if ring > 1 or len(marks) not in range(1, 7) or (ring == 1 and len(marks) < 3):
            return [-1]
        self.children = (ring, marks)
        return [0]

    def fewest(self, ring, marks):
        share = fewest_by_chains(ring, marks)
        return [sum(share), *share]

    def chain(self, ring, marks, child):
        if child not in range(len(marks)):
            return [-2]
        places = min(longest_chains(ring, marks, child))
        return [len(places), *places]

    def judge(self, ring, marks, share):
        return judged(ring, marks, share, fewest_by_chains)

    def count(self, ring, marks, sweets):
        return [-1] if sweets > 16 else [ways_of_cutting(ring, marks, sweets)]

    def order(self, ring, marks):
        return best_order(ring, marks, fewest_by_chains)

    def exchange(self, ring, marks):
        return best_exchange(ring, marks, fewest_by_chains)

    def would(self, ring, marks, child, new):
        if child not in range(len(marks)):
            return [-2]
        return what_would_be(ring, marks, child, new, fewest_by_chains)

    def mark(self, ring, marks, child, new):
        if child not in range(len(marks)):
            return [-2]
        self.children = (ring, marks_with(marks, child, new))
        return [marks[child]]

    def swap(self, ring, marks, child, other):
        if not {child, other} <= set(range(len(marks))):
            return [-2]
        self.children = (ring, changed_places(marks, child, other))
        return [sum(fewest_by_chains(*self.children))]

    def look(self, ring, marks):
        return [ring, len(marks), *marks]
