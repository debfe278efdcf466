"""Promise 11: look."""

import unittest

from asking import EXCHANGE, FEWEST, LOOK, ORDER, ask, ask_of, ask_one, begin, chain, count, judge, mark, swap, would
from plain_search import small_groups


class Look(unittest.TestCase):
    def test_rows(self):
        self.assertEqual(ask_one(0, [7], LOOK), [0, 1, 7])
        self.assertEqual(ask_one(0, [9, 0], LOOK), [0, 2, 9, 0])
        self.assertEqual(ask_one(0, [3, 1, 4, 1, 5, 9], LOOK), [0, 6, 3, 1, 4, 1, 5, 9])

    def test_rings(self):
        self.assertEqual(ask_one(1, [2, 2, 1], LOOK), [1, 3, 2, 2, 1])
        self.assertEqual(ask_one(1, [3, 1, 4, 1, 5, 9], LOOK), [1, 6, 3, 1, 4, 1, 5, 9])

    def test_every_small_group(self):
        for ring, marks in small_groups(3, 4):
            self.assertEqual(ask_one(ring, list(marks), LOOK), [ring, len(marks), *marks])

    def test_the_children_begun_with_last(self):
        told = ask(begin(1, [1, 2, 3]), LOOK, begin(0, [4]), LOOK, begin(0, [3, 2, 2, 1]), LOOK)
        self.assertEqual(told, [[0], [1, 3, 1, 2, 3], [0], [0, 1, 4], [0], [0, 4, 3, 2, 2, 1]])

    def test_behind_mark_and_swap(self):
        told = ask_of(1, [1, 2, 3], mark(1, 0), LOOK, swap(0, 1), LOOK, begin(0, [1, 2, 3]), LOOK)
        self.assertEqual(told, [[2], [1, 3, 1, 0, 3], [6], [1, 3, 0, 1, 3], [0], [0, 3, 1, 2, 3]])

    def test_what_only_asks_changes_nothing(self):
        asking = [
            FEWEST, chain(2), judge([3, 1, 2, 1]), count(9), ORDER, EXCHANGE, would(1, 7), LOOK,
        ]
        for ring in (0, 1):
            for call in asking:
                told = ask_of(ring, [3, 0, 2, 0], LOOK, call, LOOK)
                self.assertEqual([told[0], told[2]], [[ring, 4, 3, 0, 2, 0]] * 2, call)
                self.assertGreaterEqual(told[1][0], 0, call)

    def test_no_refusal_changes_anything(self):
        refused = [
            (begin(2, [1]), [-1]), (begin(0, []), [-1]), (begin(0, [1] * 7), [-1]), (begin(1, [1, 2]), [-1]),
            (chain(4), [-2]), (judge([1]), [-1]), (judge([1, 0, 1, 0]), [-3, 1]), (judge([1, 1, 1, 1]), [-4, 0]),
            (count(17), [-1]), (would(4, 9), [-2]), (mark(4, 9), [-2]),
            (swap(4, 0), [-2]), (swap(0, 4), [-2]), (swap(4, 5), [-2]), (swap(4, 4), [-2]),
        ]
        for ring in (0, 1):
            for call, refusal in refused:
                told = ask_of(ring, [3, 0, 2, 0], LOOK, call, LOOK)
                self.assertEqual(told, [[ring, 4, 3, 0, 2, 0], refusal, [ring, 4, 3, 0, 2, 0]], call)


if __name__ == "__main__":
    unittest.main()
