"""Promise 4: judge."""

import unittest
from itertools import product

from asking import FEWEST, ask_of, ask_one, judge
from plain_search import judged, small_groups


class Judge(unittest.TestCase):
    def check(self, ring, marks, share, answer):
        self.assertEqual(ask_one(ring, marks, judge(share)), answer)

    def test_the_fewest_has_none_more(self):
        self.check(0, [5], [1], [0])
        self.check(0, [0, 9], [1, 2], [0])
        self.check(0, [1, 0, 2], [2, 1, 2], [0])
        self.check(1, [1, 3, 2], [1, 3, 2], [0])

    def test_by_how_many_more(self):
        self.check(0, [5], [20], [19])
        self.check(0, [0, 9], [19, 20], [36])
        self.check(0, [1, 0, 2], [4, 1, 9], [9])
        self.check(1, [1, 3, 2], [2, 4, 3], [3])
        self.check(0, [7] * 6, [20] * 6, [114])

    def test_equal_marks_may_get_whatever_they_like(self):
        self.check(0, [4, 4, 4], [1, 20, 3], [21])
        self.check(1, [4, 4, 4], [20, 1, 3], [21])

    def test_too_few_and_too_many_numbers(self):
        for size in range(1, 7):
            for length in range(9):
                answer = [0] if length == size else [-1]
                self.check(0, [5] * size, [1] * length, answer)
                if size >= 3:
                    self.check(1, [5] * size, [1] * length, answer)

    def test_length_is_refused_ahead_of_the_rest(self):
        self.check(0, [1, 2, 3], [0, 0], [-1])
        self.check(0, [1, 2, 3], [3, 2, 1, 0], [-1])

    def test_a_child_gets_none(self):
        self.check(0, [5], [0], [-3, 0])
        self.check(0, [1, 2, 3], [0, 1, 2], [-3, 0])
        self.check(0, [4, 4, 4], [3, 2, 0], [-3, 2])

    def test_the_first_who_gets_none(self):
        self.check(0, [4, 4, 4, 4], [1, 0, 1, 0], [-3, 1])
        self.check(1, [4, 4, 4], [0, 0, 0], [-3, 0])

    def test_none_is_refused_ahead_of_no_more_than_a_worse_neighbour(self):
        self.check(0, [2, 1, 1], [1, 5, 0], [-3, 2])
        self.check(0, [2, 1], [0, 0], [-3, 0])
        self.check(1, [9, 1, 5, 5], [1, 1, 1, 0], [-3, 3])

    def test_no_more_than_a_worse_neighbour(self):
        self.check(0, [2, 1], [1, 1], [-4, 0])
        self.check(0, [2, 1], [1, 2], [-4, 0])
        self.check(0, [1, 2], [2, 2], [-4, 1])
        self.check(0, [1, 2, 3], [1, 2, 2], [-4, 2])

    def test_the_first_who_gets_no_more(self):
        self.check(0, [1, 3, 1, 3], [1, 1, 1, 1], [-4, 1])
        self.check(1, [3, 2, 1], [1, 1, 1], [-4, 0])
        self.check(0, [1, 2, 3], [1, 1, 1], [-4, 1])
        # In the ring the last one is wronged by the first, but the one at place 1 counts.
        self.check(1, [1, 3, 2, 2, 2], [1, 2, 2, 1, 1], [-4, 1])

    def test_the_first_and_the_last_are_neighbours_in_a_ring_alone(self):
        self.check(0, [2, 5, 5, 1], [1, 2, 2, 1], [0])
        self.check(1, [2, 5, 5, 1], [1, 2, 2, 1], [-4, 0])
        self.check(1, [1, 5, 5, 2], [1, 2, 3, 1], [-4, 3])

    def test_neither_judge_nor_its_refusals_change_anything(self):
        calls = [judge([1, 2, 3]), judge([1]), judge([0, 1, 1]), judge([3, 2, 1])]
        told = ask_of(0, [1, 2, 3], FEWEST, *calls, FEWEST)
        self.assertEqual(told, [[6, 1, 2, 3], [0], [-1], [-3, 0], [-4, 1], [6, 1, 2, 3]])

    def test_against_a_plain_search(self):
        for ring, marks in small_groups(3, 4):
            shares = list(product(range(4), repeat=len(marks)))
            for at in range(0, len(shares), 59):
                told = ask_of(ring, list(marks), *[judge(share) for share in shares[at:at + 59]])
                self.assertEqual(told, [judged(ring, marks, share) for share in shares[at:at + 59]], (ring, marks))


if __name__ == "__main__":
    unittest.main()
