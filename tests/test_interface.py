"""How calls stand in the one list and answers in the other, and what is not changed and not kept."""

import inspect
import unittest

import fairsweets.children
from asking import FEWEST, ORDER, ask, begin, chain, count, judge
from fairsweets.children import answers

MIXED = [
    *begin(1, [3, 1, 2]), *FEWEST, *chain(0), *chain(5), *judge([3, 1, 2]), *judge([3, 0, 2]), *judge([1, 1, 1]),
    *judge([]), *count(6), *count(17), *ORDER, *begin(1, [4]), *FEWEST,
]
MIXED_TOLD = [
    1, 0, 4, 6, 3, 1, 2, 4, 3, 0, 2, 1, 1, -2, 1, 0, 2, -3, 1, 2, -4, 0,
    1, -1, 1, 1, 1, -1, 4, 6, 0, 1, 2, 1, -1, 4, 6, 3, 1, 2,
]


class Interface(unittest.TestCase):
    def test_name_and_argument(self):
        self.assertEqual(str(inspect.signature(fairsweets.children.answers)), "(calls)")
        self.assertEqual(answers(calls=[1]), [1, -9])

    def test_each_answer_behind_how_many_numbers_it_has(self):
        self.assertEqual(answers([0, 0, 3, 1, 0, 2]), [1, 0])
        self.assertEqual(answers([0, 0, 3, 1, 0, 2, 1]), [1, 0, 4, 5, 2, 1, 2])
        self.assertEqual(answers([0, 0, 0]), [1, -1])
        self.assertEqual(answers(MIXED), MIXED_TOLD)

    def test_a_new_list_of_whole_numbers(self):
        handed = list(MIXED)
        told = answers(handed)
        self.assertIs(type(told), list)
        self.assertIsNot(told, handed)
        self.assertEqual({type(number) for number in told}, {int})
        self.assertIsNot(answers(handed), told)

    def test_what_is_handed_in_is_as_it_was(self):
        handed = list(MIXED)
        answers(handed)
        self.assertEqual(handed, MIXED)

    def test_what_is_handed_in_is_not_changed_for_a_while_either(self):
        class Guarded(list):
            def refuse(self, *rest, **named):
                raise AssertionError("the list was changed")

            append = extend = insert = pop = remove = clear = sort = reverse = refuse
            __setitem__ = __delitem__ = __iadd__ = __imul__ = refuse

        self.assertEqual(answers(Guarded(MIXED)), MIXED_TOLD)

    def test_nothing_is_kept_from_one_time_to_the_next(self):
        self.assertEqual(answers(MIXED), answers(MIXED))
        self.assertEqual(answers([0, 0, 1, 5, 1]), [1, 0, 2, 1, 1])
        self.assertEqual(answers([1]), [1, -9])

    def test_what_is_told_is_the_callers_own(self):
        told = answers(MIXED)
        told.clear()
        self.assertEqual(answers(MIXED), MIXED_TOLD)

    def test_sixty_calls_of_660_numbers(self):
        handed = begin(0, [9] * 8) * 60
        self.assertEqual(len(handed), 660)
        self.assertEqual(answers(handed), [1, -1] * 60)

    def test_sixty_calls_of_several_kinds(self):
        calls = [
            begin(1, [3, 1, 2]), FEWEST, chain(2), judge([4, 1, 2]), count(7), ORDER,
            begin(0, [0, 1]), chain(2), judge([1]), count(30), begin(7, []), FEWEST,
        ]
        told = [
            [0], [6, 3, 1, 2], [2, 2, 1], [1], [1], [6, 0, 1, 2],
            [0], [-2], [-1], [-1], [-1], [3, 1, 2],
        ]
        self.assertEqual(ask(*(calls * 5)), told * 5)

    def test_sixty_of_the_longest_searches(self):
        told = ask(begin(1, [5, 0, 4, 1, 3, 2]), *[ORDER] * 59)
        self.assertEqual(told[1:], [told[1]] * 59)
        self.assertEqual(ask(begin(0, [0] * 6), *[count(16)] * 59), [[0]] + [[3003]] * 59)


if __name__ == "__main__":
    unittest.main()
