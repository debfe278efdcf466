"""Promise 8: if, called would."""

import unittest

from asking import FEWEST, LOOK, ask_of, ask_one, begin, mark, swap, would
from plain_search import fewest, small_groups, what_would_be


class Would(unittest.TestCase):
    def check(self, ring, marks, child, new, answer):
        self.assertEqual(ask_one(ring, marks, would(child, new)), answer)

    def test_one_child(self):
        for new in range(10):
            self.check(0, [5], 0, new, [1, 1])

    def test_rows(self):
        self.check(0, [0, 9], 0, 9, [2, 1])
        self.check(0, [9, 9], 1, 0, [3, 1])
        self.check(0, [1, 0, 2], 1, 3, [4, 2])
        self.check(0, [1, 2, 3, 4, 5], 4, 6, [15, 5])
        self.check(0, [1, 2, 3, 4, 5, 6], 0, 9, [17, 2])

    def test_rings(self):
        self.check(1, [1, 2, 3], 0, 9, [6, 3])
        self.check(1, [2, 5, 5, 1], 3, 2, [6, 1])
        self.check(1, [2, 5, 5, 1], 0, 0, [8, 1])
        self.check(1, [1, 2, 3, 4, 5, 6], 5, 0, [21, 1])

    def test_how_many_in_all_ahead_of_how_many_it_got(self):
        self.check(0, [0, 1, 2, 9], 3, 3, [10, 4])
        self.check(1, [0, 1, 5, 3], 2, 4, [8, 3])

    def test_a_mark_that_becomes_a_neighbours(self):
        self.check(0, [1, 2, 3], 1, 1, [4, 1])
        self.check(0, [1, 2, 3], 1, 3, [4, 2])
        self.check(1, [1, 2, 3], 2, 1, [4, 1])
        self.check(1, [4, 4, 5], 2, 4, [3, 1])

    def test_equal_marks_among_neighbours(self):
        self.check(0, [2, 2, 2], 1, 3, [4, 2])
        self.check(0, [2, 2, 2], 1, 1, [5, 1])
        self.check(1, [2, 2, 2, 2], 0, 1, [6, 1])
        self.check(1, [2, 2, 2, 2], 0, 3, [5, 2])

    def test_marks_0_and_9(self):
        self.check(0, [5, 5], 0, 0, [3, 1])
        self.check(0, [5, 5], 0, 9, [3, 2])

    def test_the_mark_that_it_has_already(self):
        for ring, marks in small_groups(3, 4):
            calls = [would(child, marks[child]) for child in range(len(marks))]
            share = fewest(ring, marks)
            self.assertEqual(ask_of(ring, list(marks), *calls), [[sum(share), sweets] for sweets in share])

    def test_no_such_child(self):
        for size in range(1, 7):
            for ring in (0, 1) if size >= 3 else (0,):
                self.check(ring, [5] * size, size - 1, 5, [size, 1])
                for child in range(size, 10):
                    for new in (0, 5, 9):
                        self.check(ring, [5] * size, child, new, [-2])

    def test_neither_would_nor_its_refusal_changes_anything(self):
        for ring, share, sweets in ((0, [4, 1, 2, 1], 4), (1, [5, 1, 2, 2], 6)):
            seen = [ring, 3, 1, 2, 2]
            told = ask_of(ring, [1, 2, 2], LOOK, would(2, 0), LOOK, FEWEST, would(3, 0), LOOK, FEWEST)
            self.assertEqual(told, [seen, [sweets, 1], seen, share, [-2], seen, share])

    def test_one_would_does_not_count_for_the_next(self):
        told = ask_of(0, [1, 1], would(0, 9), would(1, 9), would(0, 1))
        self.assertEqual(told, [[3, 2], [3, 2], [2, 1]])

    def test_of_the_children_as_they_are_then(self):
        told = ask_of(0, [0, 1, 2], would(0, 3), mark(2, 0), would(0, 3), swap(0, 1), would(0, 3), begin(0, [7]),
                      would(0, 3), would(1, 3))
        self.assertEqual(told, [[5, 2], [2], [6, 3], [4], [4, 2], [0], [1, 1], [-2]])

    def test_against_a_plain_search(self):
        for ring, marks in small_groups(3, 4):
            handed = [(child, new) for child in range(len(marks)) for new in range(4)]
            told = ask_of(ring, list(marks), *[would(child, new) for child, new in handed])
            self.assertEqual(told, [what_would_be(ring, marks, child, new) for child, new in handed], (ring, marks))

    def test_five_children_against_a_plain_search(self):
        for marks in ((0, 1, 2, 3, 4), (9, 0, 9, 5, 0), (3, 1, 2, 2, 1), (4, 4, 4, 4, 4)):
            for ring in (0, 1):
                handed = [(child, new) for child in range(5) for new in range(10)]
                told = ask_of(ring, list(marks), *[would(child, new) for child, new in handed])
                self.assertEqual(told, [what_would_be(ring, marks, child, new) for child, new in handed])


if __name__ == "__main__":
    unittest.main()
