"""Promise 5: count."""

import unittest
from math import comb

from asking import FEWEST, ask_of, ask_one, count
from plain_search import small_groups, ways


class Count(unittest.TestCase):
    def check(self, ring, marks, sweets, answer):
        self.assertEqual(ask_one(ring, marks, count(sweets)), [answer])

    def test_one_child_gets_all(self):
        for sweets in range(1, 17):
            self.check(0, [5], sweets, 1)

    def test_no_sweets(self):
        for size in range(1, 7):
            self.check(0, [5] * size, 0, 0)
        self.check(1, [5] * 3, 0, 0)

    def test_fewer_than_the_fewest(self):
        for sweets in range(6):
            self.check(0, [1, 2, 3], sweets, 0)
        self.check(0, [5] * 6, 5, 0)

    def test_just_the_fewest(self):
        self.check(0, [1, 2, 3], 6, 1)
        self.check(1, [5, 1, 0, 1], 8, 1)
        self.check(0, [5] * 6, 6, 1)

    def test_more_than_the_fewest(self):
        # Of 7: 1 2 4. Of 8: 1 2 5 and 1 3 4.
        self.check(0, [1, 2, 3], 7, 1)
        self.check(0, [1, 2, 3], 8, 2)
        self.check(0, [1, 0], 5, 2)

    def test_equal_marks_share_in_every_way(self):
        for size in range(1, 7):
            for sweets in (1, 7, 15, 16):
                self.check(0, [3] * size, sweets, comb(sweets - 1, size - 1))
        self.check(1, [3] * 6, 16, comb(15, 5))

    def test_a_ring_asks_more_than_a_row(self):
        self.check(0, [1, 2, 2], 5, 2)
        self.check(1, [1, 2, 2], 5, 1)

    def test_16_is_told_and_17_refused(self):
        self.check(0, [1, 2], 16, 7)
        self.check(0, [1, 2, 3, 4, 5, 6], 16, 0)
        for sweets in range(17, 31):
            self.check(0, [1, 2], sweets, -1)
            self.check(0, [1, 2, 3, 4, 5, 6], sweets, -1)
            self.check(1, [5, 5, 5], sweets, -1)

    def test_neither_count_nor_its_refusal_changes_anything(self):
        told = ask_of(1, [1, 2, 2], FEWEST, count(6), count(17), FEWEST)
        self.assertEqual(told, [[5, 1, 2, 2], [2], [-1], [5, 1, 2, 2]])

    def test_against_a_plain_search(self):
        for ring, marks in small_groups(3, 3):
            told = ask_of(ring, list(marks), *[count(sweets) for sweets in range(17)])
            self.assertEqual(told, [[ways(ring, marks, sweets)] for sweets in range(17)], (ring, marks))

    def test_four_children_against_a_plain_search(self):
        for ring, marks in small_groups(3, 4):
            told = ask_of(ring, list(marks), *[count(sweets) for sweets in range(11)])
            self.assertEqual(told, [[ways(ring, marks, sweets)] for sweets in range(11)], (ring, marks))


if __name__ == "__main__":
    unittest.main()
