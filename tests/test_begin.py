"""Promise 1: begin."""

import unittest

from asking import FEWEST, ask, begin, judge


class Begin(unittest.TestCase):
    def test_rows_of_one_to_six_children(self):
        for size in range(1, 7):
            self.assertEqual(ask(begin(0, [5] * size)), [[0]])

    def test_rings_of_three_to_six_children(self):
        for size in range(3, 7):
            self.assertEqual(ask(begin(1, [5] * size)), [[0]])

    def test_marks_0_and_9(self):
        self.assertEqual(ask(begin(0, [0, 9, 0]), FEWEST), [[0], [4, 1, 2, 1]])
        self.assertEqual(ask(begin(0, [9, 0, 9]), FEWEST), [[0], [5, 2, 1, 2]])

    def test_rings_of_fewer_than_three_are_refused(self):
        for size in range(3):
            self.assertEqual(ask(begin(1, [5] * size)), [[-1]])

    def test_ring_above_1_is_refused(self):
        for ring in range(2, 10):
            for size in range(9):
                self.assertEqual(ask(begin(ring, [5] * size)), [[-1]])

    def test_none_seven_and_eight_children_are_refused(self):
        for ring in (0, 1):
            for size in (0, 7, 8):
                self.assertEqual(ask(begin(ring, [5] * size)), [[-1]])

    def test_these_children_instead_of_those_that_were(self):
        told = ask(begin(1, [1, 2, 3]), FEWEST, begin(0, [4]), FEWEST, begin(0, [3, 2, 2, 1]), FEWEST)
        self.assertEqual(told, [[0], [6, 1, 2, 3], [0], [1, 1], [0], [6, 2, 1, 2, 1]])

    def test_a_ring_after_a_row_and_a_row_after_a_ring(self):
        marks = [1, 2, 2]
        told = ask(begin(0, marks), FEWEST, begin(1, marks), FEWEST, begin(0, marks), FEWEST)
        self.assertEqual(told, [[0], [4, 1, 2, 1], [0], [5, 1, 2, 2], [0], [4, 1, 2, 1]])

    def test_a_refused_begin_leaves_the_children_that_were(self):
        refused = [begin(2, [3, 2, 1]), begin(1, [3, 2]), begin(1, []), begin(0, []), begin(0, [1] * 7)]
        for ring, share in ((0, [4, 1, 2, 1]), (1, [5, 1, 2, 2])):
            for call in refused:
                told = ask(begin(ring, [1, 2, 2]), call, FEWEST, judge([1, 2]))
                self.assertEqual(told, [[0], [-1], share, [-1]])


if __name__ == "__main__":
    unittest.main()
