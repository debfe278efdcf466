"""The calls on one object: read from one list of whole numbers, answered in another."""

from fairsweets.shares import best_exchange
from fairsweets.shares import best_order
from fairsweets.shares import changed_places
from fairsweets.shares import count_fair
from fairsweets.shares import fewest_share
from fairsweets.shares import fewest_sweets
from fairsweets.shares import longest_chain
from fairsweets.shares import other_mark
from fairsweets.shares import treated_unfairly
from fairsweets.shares import without_sweets

BEGIN = 0
FEWEST = 1
CHAIN = 2
JUDGE = 3
COUNT = 4
ORDER = 5
EXCHANGE = 6
WOULD = 7
MARK = 8
SWAP = 9

# By a call's number: how many whole numbers it hands over ahead of its row, and whether it has a row.
PLAIN_NUMBERS = (1, 0, 1, 0, 1, 0, 0, 2, 2, 2, 0)
HAS_ROW = (True, False, False, True, False, False, False, False, False, False, False)

MOST_CHILDREN = 6
SMALLEST_RING = 3
MOST_SWEETS = 16

REFUSED = -1
NO_SUCH_CHILD = -2
GETS_NONE = -3
GETS_TOO_FEW = -4
ONLY_ONE_CHILD = -6
NO_CHILDREN = -9


class Children:
    """Those who stand there now; no marks mean that there are no children.

    Each method gives back its answer, or its refusal, as a list of whole numbers.
    """

    def __init__(self):
        self.ring = 0
        self.marks = []

    def begin(self, ring, marks):
        if ring > 1 or len(marks) < 1 or len(marks) > MOST_CHILDREN:
            return [REFUSED]
        if ring == 1 and len(marks) < SMALLEST_RING:
            return [REFUSED]
        self.ring = ring
        self.marks = list(marks)
        return [0]

    def fewest(self):
        share = fewest_share(self.ring, self.marks)
        return [sum(share)] + share

    def chain(self, child):
        if child >= len(self.marks):
            return [NO_SUCH_CHILD]
        places = longest_chain(self.ring, self.marks, child)
        return [len(places)] + places

    def judge(self, share):
        if len(share) != len(self.marks):
            return [REFUSED]
        empty = without_sweets(share)
        if len(empty) > 0:
            return [GETS_NONE, empty[0]]
        unfair = treated_unfairly(self.ring, self.marks, share)
        if len(unfair) > 0:
            return [GETS_TOO_FEW, unfair[0]]
        return [sum(share) - fewest_sweets(self.ring, self.marks)]

    def ways(self, sweets):
        if sweets > MOST_SWEETS:
            return [REFUSED]
        return [count_fair(self.ring, self.marks, sweets)]

    def order(self):
        return best_order(self.ring, self.marks)

    def exchange(self):
        if len(self.marks) == 1:
            return [ONLY_ONE_CHILD]
        return best_exchange(self.ring, self.marks)

    def would(self, child, new):
        if child >= len(self.marks):
            return [NO_SUCH_CHILD]
        share = fewest_share(self.ring, other_mark(self.marks, child, new))
        return [sum(share), share[child]]

    def mark(self, child, new):
        if child >= len(self.marks):
            return [NO_SUCH_CHILD]
        old = self.marks[child]
        self.marks = other_mark(self.marks, child, new)
        return [old]

    def swap(self, child, other):
        if child >= len(self.marks) or other >= len(self.marks):
            return [NO_SUCH_CHILD]
        self.marks = changed_places(self.marks, child, other)
        return [fewest_sweets(self.ring, self.marks)]

    def look(self):
        return [self.ring, len(self.marks)] + self.marks


def answer_call(children, number, plain, row):
    """The answer to the call of that number, which hands over these plain numbers and this row."""
    if number == BEGIN:
        return children.begin(plain[0], row)
    # This refusal comes ahead of all others, so nothing that is handed over is looked at before it.
    if len(children.marks) == 0:
        return [NO_CHILDREN]
    if number == FEWEST:
        return children.fewest()
    if number == CHAIN:
        return children.chain(plain[0])
    if number == JUDGE:
        return children.judge(row)
    if number == COUNT:
        return children.ways(plain[0])
    if number == ORDER:
        return children.order()
    if number == EXCHANGE:
        return children.exchange()
    if number == WOULD:
        return children.would(plain[0], plain[1])
    if number == MARK:
        return children.mark(plain[0], plain[1])
    if number == SWAP:
        return children.swap(plain[0], plain[1])
    # Look, the one call that is left: no other number is handed in.
    return children.look()


def answers(calls):
    """The answers to all calls of the list, in order, each with how many numbers it has ahead of it."""
    children = Children()
    told = []
    at = 0
    while at < len(calls):
        number = calls[at]
        end = at + 1 + PLAIN_NUMBERS[number]
        plain = calls[at + 1:end]
        row = []
        if HAS_ROW[number]:
            start = end + 1
            end = start + calls[end]
            row = calls[start:end]
        answer = answer_call(children, number, plain, row)
        told.append(len(answer))
        told.extend(answer)
        at = end
    return told
