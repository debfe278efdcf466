"""Promise 6: order."""

import unittest

from asking import FEWEST, ORDER, ask, ask_of, ask_one, begin
from plain_search import best_order, small_groups


class Order(unittest.TestCase):
    def check(self, ring, marks, answer):
        self.assertEqual(ask_one(ring, marks, ORDER), answer)

    def test_one_child(self):
        self.check(0, [9], [1, 0])

    def test_two_in_a_row(self):
        self.check(0, [0, 9], [3, 0, 1])
        self.check(0, [9, 0], [3, 0, 1])

    def test_as_they_stand_where_no_order_is_better(self):
        self.check(0, [5] * 6, [6, 0, 1, 2, 3, 4, 5])
        self.check(1, [5] * 4, [4, 0, 1, 2, 3])
        self.check(0, [0, 9, 0], [4, 0, 1, 2])

    def test_the_best_in_the_middle_of_a_row(self):
        self.check(0, [0, 1, 2], [4, 0, 2, 1])
        self.check(0, [2, 1, 0], [4, 1, 0, 2])

    def test_the_order_tells_who_comes_to_each_place(self):
        # Marks 2 0 0 1 stood as 0 0 2 1; read the other way round they'd be 0 1 2 0.
        self.check(0, [2, 0, 0, 1], [5, 1, 2, 0, 3])
        self.check(0, [2, 0, 1, 0], [5, 1, 3, 0, 2])

    def test_of_as_good_orders_the_first(self):
        self.check(0, [0, 1, 1, 0], [5, 0, 3, 1, 2])
        self.check(1, [0, 1, 2], [6, 0, 1, 2])
        self.check(1, [2, 1, 0], [6, 0, 1, 2])

    def test_six_children(self):
        # Two neighbours with other marks get three at least: low and high by turns is as few as can be.
        for ring in (0, 1):
            self.check(ring, [1, 2, 3, 4, 5, 6], [9, 0, 2, 1, 4, 3, 5])
            self.check(ring, [6, 5, 4, 3, 2, 1], [9, 0, 2, 1, 4, 3, 5])
            self.check(ring, [5, 0, 4, 1, 3, 2], [9, 0, 1, 2, 3, 4, 5])
            self.check(ring, [0, 1, 1, 1, 1, 1], best_order(ring, (0, 1, 1, 1, 1, 1)))

    def test_a_ring_stays_a_ring(self):
        self.check(0, [0, 1, 1], [4, 0, 1, 2])
        self.check(1, [0, 1, 1], [5, 0, 1, 2])
        self.check(1, [0, 0, 1, 1], [6, 0, 1, 2, 3])

    def test_nobody_is_moved(self):
        told = ask_of(0, [0, 1, 2], FEWEST, ORDER, FEWEST, ORDER)
        self.assertEqual(told, [[6, 1, 2, 3], [4, 0, 2, 1]] * 2)

    def test_stood_in_that_order_so_few_do(self):
        for ring, marks in small_groups(3, 4):
            sweets, *places = ask_one(ring, list(marks), ORDER)
            self.assertEqual(sorted(places), list(range(len(marks))))
            told = ask(begin(ring, [marks[place] for place in places]), FEWEST)
            self.assertEqual(told[1][0], sweets)

    def test_against_a_plain_search(self):
        for ring, marks in small_groups(4, 4):
            self.check(ring, list(marks), best_order(ring, marks))

    def test_five_children_against_a_plain_search(self):
        for ring, marks in small_groups(2, 5):
            self.check(ring, list(marks), best_order(ring, marks))
        for marks in ((0, 1, 2, 3, 4), (9, 0, 9, 5, 0), (3, 1, 2, 2, 1), (4, 3, 2, 1, 0)):
            for ring in (0, 1):
                self.check(ring, list(marks), best_order(ring, marks))


if __name__ == "__main__":
    unittest.main()
