"""Without children every call but begin answers -9, whatever is handed in with it."""

import unittest

from asking import EXCHANGE, FEWEST, LOOK, ORDER
from asking import ask, begin, chain, count, judge, mark, swap, would

ORDINARY = [
    FEWEST, chain(0), judge([1, 2, 3]), count(5), ORDER, EXCHANGE, would(0, 5), mark(0, 5), swap(0, 1), LOOK,
]
REFUSED_OTHERWISE = [
    chain(9), judge([]), judge([0] * 8), judge([0]), count(0), count(17), count(30),
    would(9, 0), mark(9, 9), swap(9, 9), swap(0, 9), swap(9, 0),
]
REFUSED_BEGINS = [
    begin(2, [1, 2, 3]), begin(9, []), begin(0, []), begin(0, [1] * 7), begin(1, [1, 2]), begin(1, [0] * 8),
]


class NoChildren(unittest.TestCase):
    def test_each_call_alone(self):
        for call in ORDINARY + REFUSED_OTHERWISE:
            self.assertEqual(ask(call), [[-9]], call)

    def test_each_call_behind_a_refused_begin(self):
        for refused in REFUSED_BEGINS:
            for call in ORDINARY + REFUSED_OTHERWISE:
                self.assertEqual(ask(refused, call), [[-1], [-9]], (refused, call))

    def test_every_call_is_read_to_its_end(self):
        for call in ORDINARY + REFUSED_OTHERWISE:
            told = ask(call, call, begin(0, [1, 0, 2]), FEWEST)
            self.assertEqual(told, [[-9], [-9], [0], [5, 2, 1, 2]], call)

    def test_all_calls_in_one_list(self):
        calls = ORDINARY + REFUSED_OTHERWISE
        told = ask(*calls, begin(0, [0, 1]), FEWEST)
        self.assertEqual(told, [[-9]] * len(calls) + [[0], [3, 1, 2]])


if __name__ == "__main__":
    unittest.main()
