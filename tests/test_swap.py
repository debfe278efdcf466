"""Promise 10: swap."""

import unittest

from asking import EXCHANGE, FEWEST, LOOK, ORDER, ask, ask_of, begin, chain, count, judge, mark, swap
from plain_search import changed_places, fewest, small_groups


class Swap(unittest.TestCase):
    def check(self, ring, marks, child, other, sweets, seen):
        told = ask_of(ring, marks, swap(child, other), LOOK)
        self.assertEqual(told, [[sweets], [ring, len(marks), *seen]])

    def test_rows(self):
        self.check(0, [0, 9], 0, 1, 3, [9, 0])
        self.check(0, [0, 1, 2], 0, 1, 5, [1, 0, 2])
        self.check(0, [0, 1, 2], 1, 2, 4, [0, 2, 1])
        self.check(0, [0, 1, 2], 0, 2, 6, [2, 1, 0])
        self.check(0, [1, 2, 3, 4, 5, 6], 0, 5, 13, [6, 2, 3, 4, 5, 1])

    def test_rings(self):
        self.check(1, [0, 1, 2], 0, 2, 6, [2, 1, 0])
        self.check(1, [0, 1, 2, 3], 0, 1, 8, [1, 0, 2, 3])
        self.check(1, [0, 1, 2, 3], 0, 3, 6, [3, 1, 2, 0])
        self.check(1, [2, 5, 5, 1], 0, 1, 6, [5, 2, 5, 1])

    def test_equal_marks(self):
        self.check(0, [4, 4], 0, 1, 2, [4, 4])
        self.check(0, [1, 2, 2], 1, 2, 4, [1, 2, 2])
        self.check(0, [1, 2, 2], 0, 1, 5, [2, 1, 2])
        self.check(1, [1, 2, 2, 1], 0, 3, 6, [1, 2, 2, 1])

    def test_the_higher_place_first(self):
        self.check(0, [0, 1, 2], 1, 0, 5, [1, 0, 2])
        self.check(0, [0, 1, 2], 2, 1, 4, [0, 2, 1])
        self.check(1, [0, 1, 2, 3], 3, 0, 6, [3, 1, 2, 0])
        self.check(0, [1, 2, 3, 4, 5, 6], 5, 0, 13, [6, 2, 3, 4, 5, 1])

    def test_a_child_with_itself(self):
        for ring, marks in small_groups(3, 4):
            for child in range(len(marks)):
                self.check(ring, list(marks), child, child, sum(fewest(ring, marks)), marks)

    def test_there_and_back(self):
        told = ask_of(0, [0, 1, 2], swap(0, 1), LOOK, swap(0, 1), LOOK, swap(0, 1), swap(1, 2), LOOK)
        self.assertEqual(told, [
            [5], [0, 3, 1, 0, 2], [6], [0, 3, 0, 1, 2], [5], [4], [0, 3, 1, 2, 0],
        ])

    def test_no_such_child(self):
        for size in range(1, 7):
            for ring in (0, 1) if size >= 3 else (0,):
                marks = list(range(size))
                for absent in range(size, 10):
                    for handed in ((absent, 0), (0, absent), (absent, absent), (absent, 9), (size - 1, absent)):
                        told = ask_of(ring, marks, swap(*handed), LOOK)
                        self.assertEqual(told, [[-2], [ring, size, *marks]], handed)

    def test_the_highest_place_that_there_is(self):
        for size in range(2, 7):
            marks = list(range(size))
            after = [size - 1, *marks[1:-1], 0]
            sweets = sum(fewest(0, tuple(after)))
            self.check(0, marks, 0, size - 1, sweets, after)
            self.check(0, marks, size - 1, 0, sweets, after)
            self.check(0, marks, size - 1, size - 1, sum(range(1, size + 1)), marks)

    def test_all_calls_behind_it_speak_of_the_new_places(self):
        calls = [FEWEST, chain(1), judge([1, 3, 2]), count(6), ORDER, EXCHANGE, LOOK]
        told = ask_of(0, [0, 1, 2], swap(2, 1), *calls, swap(0, 1), *calls)
        self.assertEqual(told, [
            [4], [4, 1, 2, 1], [2, 1, 0], [2], [3], [4, 0, 1, 2], [4, 0, 2], [0, 3, 0, 2, 1],
            [5], [5, 2, 1, 2], [1, 1], [-4, 0], [2], [4, 1, 0, 2], [4, 0, 1], [0, 3, 2, 0, 1],
        ])

    def test_marks_go_with_the_children(self):
        told = ask_of(0, [1, 2, 3], mark(0, 9), swap(0, 2), mark(2, 5), mark(0, 6), LOOK)
        self.assertEqual(told, [[1], [5], [9], [3], [0, 3, 6, 2, 5]])

    def test_a_begin_ends_it(self):
        told = ask(begin(0, [0, 1, 2]), swap(0, 1), begin(0, [0, 1, 2]), LOOK)
        self.assertEqual(told, [[0], [5], [0], [0, 3, 0, 1, 2]])

    def test_a_refused_begin_leaves_the_new_places(self):
        for refused in (begin(2, [1]), begin(0, []), begin(0, [1] * 7), begin(1, [1, 1])):
            told = ask_of(1, [1, 2, 3], swap(0, 2), mark(1, 7), refused, LOOK, FEWEST)
            self.assertEqual(told, [[6], [2], [-1], [1, 3, 3, 7, 1], [6, 2, 3, 1]])

    def test_against_a_plain_search(self):
        for ring, marks in small_groups(4, 4):
            for child in range(len(marks)):
                for other in range(len(marks)):
                    after = changed_places(marks, child, other)
                    self.check(ring, list(marks), child, other, sum(fewest(ring, after)), after)


if __name__ == "__main__":
    unittest.main()
