"""Promise 7: exchange."""

import unittest

from asking import EXCHANGE, FEWEST, LOOK, ask, ask_of, ask_one, begin, mark, swap
from plain_search import best_exchange, every_kind_of_group, fewest_by_chains, small_groups


class Exchange(unittest.TestCase):
    def check(self, ring, marks, answer):
        self.assertEqual(ask_one(ring, marks, EXCHANGE), answer)

    def test_one_child_is_refused(self):
        for only in (0, 5, 9):
            self.assertEqual(ask_of(0, [only], EXCHANGE, LOOK), [[-6], [0, 1, only]])

    def test_one_child_behind_several_and_several_behind_one(self):
        told = ask(begin(1, [0, 0, 0]), EXCHANGE, begin(0, [3]), EXCHANGE, begin(0, [3, 3]), EXCHANGE)
        self.assertEqual(told, [[0], [3, 0, 1], [0], [-6], [0], [2, 0, 1]])

    def test_two_children(self):
        self.check(0, [0, 9], [3, 0, 1])
        self.check(0, [9, 0], [3, 0, 1])
        self.check(0, [4, 4], [2, 0, 1])

    def test_rows(self):
        self.check(0, [0, 1, 2], [4, 1, 2])
        self.check(0, [2, 1, 0], [4, 0, 1])
        self.check(0, [1, 0, 2], [4, 1, 2])
        self.check(0, [0, 1, 2, 3], [6, 0, 3])

    def test_equal_marks_among_neighbours_of_a_row(self):
        self.check(0, [1, 2, 2], [4, 0, 2])
        self.check(0, [0, 1, 1, 0], [5, 0, 2])
        self.check(0, [1, 2, 2, 2, 1, 0], best_exchange(0, (1, 2, 2, 2, 1, 0), fewest_by_chains))

    def test_a_ring_of_three_is_the_same_for_every_pair(self):
        self.check(1, [1, 2, 3], [6, 0, 1])
        self.check(1, [3, 1, 2], [6, 0, 1])
        self.check(1, [2, 2, 1], [5, 0, 1])
        self.check(1, [1, 1, 2], [4, 0, 1])
        self.check(1, [0, 0, 0], [3, 0, 1])

    def test_rings(self):
        self.check(1, [0, 1, 2, 3], [6, 0, 3])
        self.check(1, [0, 1, 1, 0], [6, 0, 1])
        self.check(1, [5, 1, 0, 1], [6, 0, 1])
        self.check(1, [0, 3, 3, 1, 1, 2], [9, 1, 2])

    def test_a_ring_stays_a_ring(self):
        self.check(0, [0, 1, 1], [4, 0, 2])
        self.check(1, [0, 1, 1], [5, 0, 1])
        self.check(0, [0, 0, 1, 1], [5, 0, 1])
        self.check(1, [0, 0, 1, 1], [6, 0, 1])

    def test_all_marks_alike(self):
        for size in range(2, 7):
            self.check(0, [7] * size, [size, 0, 1])
            if size >= 3:
                self.check(1, [7] * size, [size, 0, 1])

    def test_where_no_exchange_makes_them_fewer(self):
        # The pair is told though the fewest are 4, 5, 9 and 8 already.
        self.check(0, [0, 9, 0], [4, 0, 1])
        self.check(0, [0, 1, 0, 0], [5, 0, 1])
        self.check(1, [0, 1, 0, 3, 2, 3], [9, 0, 2])
        self.check(1, [2, 0, 0, 2, 1, 1], [8, 0, 3])

    def test_where_every_exchange_but_one_makes_them_more(self):
        self.check(0, [0, 2, 1], [4, 0, 2])
        self.check(0, [1, 2, 0], [4, 0, 2])

    def test_where_every_exchange_of_two_unlike_marks_makes_them_more(self):
        self.check(0, [0, 2, 1, 1], [5, 2, 3])
        self.check(0, [1, 2, 0, 0], [5, 2, 3])

    def test_six_children(self):
        self.check(0, [1, 2, 3, 4, 5, 6], best_exchange(0, (1, 2, 3, 4, 5, 6), fewest_by_chains))
        self.check(1, [1, 2, 3, 4, 5, 6], best_exchange(1, (1, 2, 3, 4, 5, 6), fewest_by_chains))
        self.check(0, [5, 0, 4, 1, 3, 2], [9, 0, 2])
        self.check(1, [0, 9, 0, 9, 0, 9], best_exchange(1, (0, 9, 0, 9, 0, 9), fewest_by_chains))

    def test_nobody_is_moved(self):
        told = ask_of(1, [0, 1, 2, 3], LOOK, FEWEST, EXCHANGE, LOOK, FEWEST, EXCHANGE)
        self.assertEqual(told, [[1, 4, 0, 1, 2, 3], [10, 1, 2, 3, 4], [6, 0, 3]] * 2)

    def test_of_the_children_as_they_are_then(self):
        told = ask_of(0, [0, 1, 2], EXCHANGE, swap(1, 2), EXCHANGE, mark(1, 0), EXCHANGE, mark(2, 0), EXCHANGE)
        self.assertEqual(told, [[4, 1, 2], [4], [4, 0, 2], [2], [4, 0, 1], [1], [3, 0, 1]])

    def test_changed_so_as_many_do(self):
        for ring, marks in small_groups(3, 4):
            if len(marks) > 1:
                sweets, low, high = ask_one(ring, list(marks), EXCHANGE)
                self.assertLess(low, high)
                self.assertEqual(ask_one(ring, list(marks), swap(low, high)), [sweets])

    def test_against_a_plain_search(self):
        for ring, marks in small_groups(4, 4):
            self.check(ring, list(marks), best_exchange(ring, marks))

    def test_five_children_against_a_plain_search(self):
        for ring, marks in small_groups(2, 5):
            self.check(ring, list(marks), best_exchange(ring, marks))
        for marks in ((0, 1, 2, 3, 4), (9, 0, 9, 5, 0), (3, 1, 2, 2, 1), (4, 3, 2, 1, 0)):
            for ring in (0, 1):
                self.check(ring, list(marks), best_exchange(ring, marks))

    def test_every_kind_of_row_and_ring(self):
        for size in range(1, 7):
            for ring, marks in every_kind_of_group(size):
                fewest, exchange = ask_of(ring, list(marks), FEWEST, EXCHANGE)
                self.assertEqual(exchange, best_exchange(ring, marks, fewest_by_chains), (ring, marks))
                # More would be told too, but of up to six children there are always two with whom it's no more.
                self.assertLessEqual(exchange[0], fewest[0], (ring, marks))


if __name__ == "__main__":
    unittest.main()
