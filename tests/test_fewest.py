"""Promise 2: fewest."""

import unittest

from asking import FEWEST, ask_of, ask_one
from plain_search import fewest, small_groups


class Fewest(unittest.TestCase):
    def check(self, ring, marks, share):
        self.assertEqual(ask_one(ring, marks, FEWEST), [sum(share), *share])

    def test_one_child(self):
        for mark in (0, 5, 9):
            self.check(0, [mark], [1])

    def test_two_in_a_row(self):
        self.check(0, [0, 9], [1, 2])
        self.check(0, [9, 0], [2, 1])
        self.check(0, [4, 4], [1, 1])

    def test_rows(self):
        self.check(0, [1, 0, 2], [2, 1, 2])
        self.check(0, [1, 2, 3, 4, 5, 6], [1, 2, 3, 4, 5, 6])
        self.check(0, [9, 7, 5, 3, 1, 0], [6, 5, 4, 3, 2, 1])
        self.check(0, [0, 3, 2, 1], [1, 3, 2, 1])

    def test_equal_marks_among_neighbours_of_a_row(self):
        self.check(0, [1, 2, 2], [1, 2, 1])
        self.check(0, [1, 2, 2, 2, 1, 0], [1, 2, 1, 3, 2, 1])
        self.check(0, [7] * 6, [1] * 6)

    def test_rings_of_three(self):
        self.check(1, [1, 2, 3], [1, 2, 3])
        self.check(1, [1, 3, 2], [1, 3, 2])
        self.check(1, [2, 2, 1], [2, 2, 1])
        self.check(1, [0, 0, 0], [1, 1, 1])

    def test_rings_of_four_to_six(self):
        self.check(1, [5, 1, 0, 1], [3, 2, 1, 2])
        self.check(1, [3, 2, 3, 4, 5], [2, 1, 2, 3, 4])
        self.check(1, [1, 2, 3, 4, 5, 6], [1, 2, 3, 4, 5, 6])
        self.check(1, [6, 6, 6, 1, 2, 3], [4, 1, 2, 1, 2, 3])

    def test_the_first_and_the_last_are_neighbours_in_a_ring_alone(self):
        self.check(0, [2, 5, 5, 1], [1, 2, 2, 1])
        self.check(1, [2, 5, 5, 1], [2, 3, 2, 1])

    def test_asking_changes_nothing(self):
        self.assertEqual(ask_of(0, [1, 0, 2], FEWEST, FEWEST), [[5, 2, 1, 2]] * 2)

    def test_against_a_plain_search(self):
        for ring, marks in small_groups(4, 4):
            self.check(ring, list(marks), list(fewest(ring, marks)))

    def test_five_children_against_a_plain_search(self):
        for ring, marks in small_groups(2, 5):
            self.check(ring, list(marks), list(fewest(ring, marks)))
        for marks in ((0, 1, 2, 3, 4), (2, 0, 4, 1, 3), (4, 3, 3, 2, 9), (9, 8, 7, 9, 8), (3, 5, 4, 6, 0)):
            for ring in (0, 1):
                self.check(ring, list(marks), list(fewest(ring, marks)))


if __name__ == "__main__":
    unittest.main()
