"""Calls written as lists of numbers, and their answers taken apart again."""

from fairsweets.children import answers

FEWEST = [1]
ORDER = [5]
EXCHANGE = [6]
LOOK = [10]


def begin(ring, marks):
    return [0, ring, len(marks), *marks]


def chain(child):
    return [2, child]


def judge(share):
    return [3, len(share), *share]


def count(sweets):
    return [4, sweets]


def would(child, mark):
    return [7, child, mark]


def mark(child, new):
    return [8, child, new]


def swap(child, other):
    return [9, child, other]


def taken_apart(told):
    """The answers, a list each; fails if the numbers told ahead of them don't fit."""
    parts = []
    at = 0
    while at < len(told):
        size = told[at]
        if size < 1 or at + 1 + size > len(told):
            raise AssertionError(f"no answer of {size} numbers at {at} of {told}")
        parts.append(told[at + 1:at + 1 + size])
        at += 1 + size
    return parts


def ask(*calls):
    """The answers to these calls on one new object, a list each."""
    if not 1 <= len(calls) <= 60:
        raise AssertionError(f"a list has 1 to 60 calls, not {len(calls)}")
    parts = taken_apart(answers([number for call in calls for number in call]))
    if len(parts) != len(calls):
        raise AssertionError(f"{len(calls)} calls, {len(parts)} answers")
    return parts


def ask_of(ring, marks, *calls):
    """The answers to these calls, put to these children."""
    first, *rest = ask(begin(ring, marks), *calls)
    if first != [0]:
        raise AssertionError(f"begin answered {first}")
    return rest


def ask_one(ring, marks, call):
    return ask_of(ring, marks, call)[0]
