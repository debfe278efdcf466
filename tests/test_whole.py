"""Lists of all eleven calls in any order, against the plain reading of the document; and the longest ones."""

import contextlib
import io
import random
import subprocess
import sys
import unittest
from itertools import product

from asking import EXCHANGE, FEWEST, LOOK, ORDER, ask, ask_of, begin, chain, count, judge, mark, swap, would
from fairsweets.children import answers
from plain_reading import PlainReading
from plain_search import fewest_by_chains

WRITTEN = [FEWEST, ORDER, EXCHANGE, LOOK]


def some_row(source, most):
    return [source.randint(0, most) for place in range(source.randint(0, 8))]


def some_begin(source):
    ring = source.choice([0, 0, 0, 1, 1, 1, source.randint(0, 9)])
    highest = source.choice([1, 2, 5, 9])
    return begin(ring, some_row(source, highest))


def some_share(source, reading):
    """A share that is often fair, or nearly so."""
    if reading.children is None or source.random() < 0.2:
        return some_row(source, 20)
    share = [sweets + source.choice([0, 0, 0, 0, 1, 5]) for sweets in fewest_by_chains(*reading.children)]
    if source.random() < 0.3:
        share[source.randrange(len(share))] = source.randint(0, 3)
    return share


def some_call(source, reading):
    number = source.randint(0, 10)
    child, other, new = source.randint(0, 6), source.randint(0, 6), source.randint(0, 9)
    if source.random() < 0.1:
        child = source.randint(0, 9)
    if number == 0:
        return some_begin(source)
    if number == 3:
        return judge(some_share(source, reading))
    handed = {2: [child], 4: [source.randint(0, 30)], 7: [child, new], 8: [child, new], 9: [child, other]}
    return [number, *handed.get(number, [])]


class Whole(unittest.TestCase):
    def check(self, calls):
        reading = PlainReading()
        self.assertEqual(ask(*calls), [reading.told(call) for call in calls], calls)

    def test_lists_of_all_kinds_in_any_order(self):
        source = random.Random(11)
        for number in range(150):
            reading = PlainReading()
            calls = [some_begin(source)] if number % 5 else []
            for call in calls:
                reading.told(call)
            length = 60 if number % 3 == 0 else source.randint(1, 60)
            while len(calls) < length:
                calls.append(some_call(source, reading))
                reading.told(calls[-1])
            self.check(calls)

    def test_every_two_calls_behind_a_begin(self):
        calls = [
            begin(0, [2, 2, 1]), begin(1, [0, 3]), *WRITTEN, chain(2), chain(3), judge([1, 2, 3]), judge([0, 0, 0]),
            judge([1]), count(7), count(17), would(0, 3), would(3, 0), mark(1, 9), mark(3, 9), swap(0, 1), swap(2, 2),
            swap(3, 0), swap(0, 3),
        ]
        for ring in (0, 1):
            for first, second in product(calls, repeat=2):
                self.check([begin(ring, [1, 3, 3]), first, second, LOOK, FEWEST])
                self.check([first, second, LOOK])

    def test_asked_anew_behind_what_changes_the_children(self):
        asking = [FEWEST, chain(1), judge([2, 1, 2]), count(8), ORDER, EXCHANGE, would(2, 1), LOOK]
        for ring in (0, 1):
            for change in (mark(0, 9), swap(1, 2), begin(1 - ring, [3, 3, 1]), begin(ring, [0, 4, 4])):
                self.check([begin(ring, [1, 0, 2]), *asking, change, *asking])

    def test_sixty_of_each_dearest_call(self):
        marks = (5, 0, 4, 1, 3, 2)
        for ring in (0, 1):
            for call in (ORDER, EXCHANGE, count(16), would(5, 9), swap(0, 5), chain(0), judge([6] * 6)):
                self.check([begin(ring, marks), *[call] * 59])

    def test_the_dearest_calls_in_turn(self):
        calls = [begin(1, [0] * 6)]
        while len(calls) < 60:
            place = len(calls) % 6
            calls += [ORDER, count(16), mark(place, place + 3)] if place % 2 else [EXCHANGE, swap(place, 5), count(16)]
        self.check(calls[:60])

    def test_sixty_without_children(self):
        calls = [*WRITTEN, chain(0), judge([1]), count(1), would(0, 0), mark(0, 0), swap(0, 0)]
        self.assertEqual(ask(*calls * 6), [[-9]] * 60)

    def test_nothing_is_kept_from_one_time_to_the_next(self):
        calls = [LOOK, begin(1, [1, 2, 3]), mark(0, 9), swap(0, 2), LOOK]
        for time in range(3):
            self.assertEqual(ask(*calls), [[-9], [0], [1], [6], [1, 3, 3, 2, 9]])
            self.assertEqual(ask(LOOK, EXCHANGE), [[-9], [-9]])

    def test_what_is_told_earlier_is_not_changed_later(self):
        told = ask_of(0, [1, 2], LOOK, mark(0, 5), swap(0, 1), LOOK)
        self.assertEqual(told, [[0, 2, 1, 2], [1], [3], [0, 2, 2, 5]])

    def test_nothing_is_printed(self):
        said = io.StringIO()
        with contextlib.redirect_stdout(said), contextlib.redirect_stderr(said):
            self.check([begin(0, [1, 2, 3]), *WRITTEN, swap(0, 1), mark(0, 9), would(0, 9), begin(9, []), LOOK])
        self.assertEqual(said.getvalue(), "")

    def test_nothing_but_the_package_is_imported(self):
        program = (
            "import sys; before = set(sys.modules)\n"
            "from fairsweets.children import answers\n"
            "answers([0, 0, 2, 1, 2, 1, 2, 0, 3, 1, 1, 4, 5, 5, 6, 7, 0, 1, 8, 0, 1, 9, 0, 1, 10])\n"
            "print(sorted(set(sys.modules) - before))\n"
        )
        told = subprocess.run([sys.executable, "-c", program], capture_output=True, text=True, check=True)
        self.assertEqual(told.stdout, "['fairsweets', 'fairsweets.children', 'fairsweets.shares']\n")

    def test_whole_numbers_alone(self):
        handed = [*begin(1, [1, 2, 3]), *EXCHANGE, *would(0, 3), *mark(0, 3), *swap(0, 1), *LOOK, *ORDER, *swap(3, 0)]
        before = list(handed)
        told = answers(handed)
        self.assertEqual({type(number) for number in told}, {int})
        self.assertEqual(handed, before)


if __name__ == "__main__":
    unittest.main()
