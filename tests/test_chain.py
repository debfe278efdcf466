"""Promise 3: chain."""

import unittest

from asking import FEWEST, ask_of, ask_one, chain
from plain_search import fewest, longest_chains, small_groups


class Chain(unittest.TestCase):
    def check(self, ring, marks, child, places):
        self.assertEqual(ask_one(ring, marks, chain(child)), [len(places), *places])

    def test_one_child(self):
        self.check(0, [7], 0, [0])

    def test_two_in_a_row(self):
        self.check(0, [0, 9], 0, [0])
        self.check(0, [0, 9], 1, [1, 0])

    def test_rows(self):
        self.check(0, [1, 2, 3, 4, 5, 6], 5, [5, 4, 3, 2, 1, 0])
        self.check(0, [6, 5, 4, 3, 2, 1], 2, [2, 3, 4, 5])
        self.check(0, [1, 0, 2], 1, [1])

    def test_an_equal_mark_ends_a_chain(self):
        self.check(0, [1, 2, 2, 3], 3, [3, 2])
        self.check(1, [4, 4, 4], 1, [1])

    def test_a_neighbour_with_two_sweets_fewer_is_not_gone_to(self):
        self.check(0, [0, 3, 2, 1], 1, [1, 2, 3])
        self.check(0, [1, 2, 3, 0], 2, [2, 1, 0])

    def test_where_two_do_the_lower_place(self):
        self.check(0, [0, 1, 0], 1, [1, 0])
        self.check(0, [0, 1, 2, 1, 0], 2, [2, 1, 0])

    def test_where_two_do_at_the_ends_of_a_ring(self):
        self.check(1, [0, 3, 3, 3, 0, 1], 5, [5, 0])
        self.check(1, [5, 1, 0, 1], 0, [0, 1, 2])
        self.check(1, [1, 1, 2], 2, [2, 0])

    def test_rings_are_gone_round_between_the_first_and_the_last(self):
        self.check(1, [1, 9, 9, 0], 0, [0, 3])
        self.check(1, [1, 2, 9, 9, 9, 0], 1, [1, 0, 5])
        self.check(1, [0, 9, 9, 3, 2, 1], 3, [3, 4, 5, 0])

    def test_no_such_child(self):
        for size in range(1, 7):
            for child in range(size, 10):
                self.assertEqual(ask_one(0, [5] * size, chain(child)), [-2])
            self.assertEqual(ask_one(0, [5] * size, chain(size - 1)), [1, size - 1])
        for size in range(3, 7):
            self.assertEqual(ask_one(1, [5] * size, chain(size)), [-2])

    def test_neither_chain_nor_its_refusal_changes_anything(self):
        told = ask_of(1, [3, 1, 2], FEWEST, chain(0), chain(3), FEWEST)
        self.assertEqual(told, [[6, 3, 1, 2], [3, 0, 2, 1], [-2], [6, 3, 1, 2]])

    def test_against_a_plain_search(self):
        for ring, marks in small_groups(4, 4):
            told = ask_of(ring, list(marks), *[chain(child) for child in range(len(marks))])
            for child, answer in enumerate(told):
                # Step by step the lower place: the first of all longest chains.
                places = min(longest_chains(ring, marks, child))
                self.assertEqual(answer, [len(places), *places])
                self.assertEqual(len(places), fewest(ring, marks)[child])


if __name__ == "__main__":
    unittest.main()
