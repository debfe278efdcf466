"""Promise 9: mark."""

import unittest

from asking import EXCHANGE, FEWEST, LOOK, ORDER, ask, ask_of, begin, chain, count, judge, mark, would
from plain_search import fewest, small_groups


class Mark(unittest.TestCase):
    def check(self, ring, marks, child, new, seen):
        told = ask_of(ring, marks, mark(child, new), LOOK)
        self.assertEqual(told, [[marks[child]], [ring, len(marks), *seen]])

    def test_one_child(self):
        self.check(0, [5], 0, 0, [0])
        self.check(0, [0], 0, 9, [9])

    def test_rows(self):
        self.check(0, [1, 2], 1, 0, [1, 0])
        self.check(0, [3, 1, 4, 1, 5, 9], 0, 2, [2, 1, 4, 1, 5, 9])
        self.check(0, [3, 1, 4, 1, 5, 9], 5, 2, [3, 1, 4, 1, 5, 2])

    def test_rings(self):
        self.check(1, [1, 2, 3], 0, 9, [9, 2, 3])
        self.check(1, [3, 1, 4, 1, 5, 9], 3, 4, [3, 1, 4, 4, 5, 9])

    def test_equal_marks_among_neighbours(self):
        self.check(0, [4, 4, 4], 1, 7, [4, 7, 4])
        self.check(1, [4, 4, 4, 4], 3, 0, [4, 4, 4, 0])

    def test_the_mark_that_it_has_already(self):
        for marks in ([0], [9, 9], [3, 1, 4, 1, 5, 9]):
            for child, old in enumerate(marks):
                self.check(0, marks, child, old, marks)
        self.check(1, [2, 2, 1], 2, 1, [2, 2, 1])

    def test_the_mark_that_was_is_the_one_given_last(self):
        told = ask_of(0, [1, 2], mark(0, 7), mark(0, 8), mark(1, 7), mark(0, 0), mark(0, 0), LOOK)
        self.assertEqual(told, [[1], [7], [2], [8], [0], [0, 2, 0, 7]])

    def test_no_such_child(self):
        for size in range(1, 7):
            for ring in (0, 1) if size >= 3 else (0,):
                self.check(ring, [5] * size, size - 1, 6, [5] * (size - 1) + [6])
                for child in range(size, 10):
                    for new in (0, 5, 9):
                        told = ask_of(ring, [5] * size, mark(child, new), LOOK, FEWEST)
                        self.assertEqual(told, [[-2], [ring, size, *[5] * size], [size, *[1] * size]])

    def test_all_calls_behind_it_speak_of_the_new_mark(self):
        calls = [FEWEST, chain(1), judge([1, 3, 2]), count(7), ORDER, EXCHANGE, would(0, 2), LOOK]
        told = ask_of(0, [0, 0, 0], mark(1, 2), *calls, mark(2, 1), *calls)
        self.assertEqual(told, [
            [0], [4, 1, 2, 1], [2, 1, 0], [2], [4], [4, 0, 1, 2], [4, 0, 1], [4, 1], [0, 3, 0, 2, 0],
            [0], [4, 1, 2, 1], [2, 1, 0], [2], [4], [4, 0, 1, 2], [4, 0, 2], [4, 1], [0, 3, 0, 2, 1],
        ])

    def test_a_ring_stays_a_ring(self):
        told = ask_of(1, [1, 1, 1], mark(0, 0), FEWEST, mark(2, 2), FEWEST)
        self.assertEqual(told, [[1], [5, 1, 2, 2], [1], [6, 1, 2, 3]])

    def test_a_begin_ends_it(self):
        told = ask(begin(0, [1, 2]), mark(0, 9), begin(0, [1, 2]), LOOK, mark(0, 3))
        self.assertEqual(told, [[0], [1], [0], [0, 2, 1, 2], [1]])

    def test_a_refused_begin_leaves_the_new_mark(self):
        for refused in (begin(2, [1]), begin(0, []), begin(0, [1] * 7), begin(1, [1, 1])):
            told = ask_of(1, [1, 2, 3], mark(0, 9), refused, LOOK, FEWEST)
            self.assertEqual(told, [[1], [-1], [1, 3, 9, 2, 3], [6, 3, 1, 2]])

    def test_so_the_fewest_are_those_of_such_children(self):
        for ring, marks in small_groups(3, 4):
            for child in range(len(marks)):
                for new in range(4):
                    after = (*marks[:child], new, *marks[child + 1:])
                    share = fewest(ring, after)
                    told = ask_of(ring, list(marks), mark(child, new), FEWEST, LOOK)
                    self.assertEqual(told, [[marks[child]], [sum(share), *share], [ring, len(marks), *after]])


if __name__ == "__main__":
    unittest.main()
