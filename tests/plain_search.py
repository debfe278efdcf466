"""The document's words, searched through plainly: slow, and sharing nothing with the program."""

from functools import lru_cache
from itertools import permutations, product


def are_neighbours(ring, size, one, other):
    apart = abs(one - other)
    return apart == 1 or (ring == 1 and apart == size - 1)


@lru_cache(maxsize=None)
def must_exceed(ring, marks):
    """Every (place, place of a neighbour with a lower mark), in order."""
    size = len(marks)
    return [
        (one, other)
        for one in range(size)
        for other in range(size)
        if are_neighbours(ring, size, one, other) and marks[one] > marks[other]
    ]


def is_fair(ring, marks, share):
    return min(share) >= 1 and all(share[one] > share[other] for one, other in must_exceed(ring, marks))


@lru_cache(maxsize=None)
def fewest(ring, marks):
    """The fair share that has no more for any child than any other fair share has."""
    size = len(marks)
    # No chain is longer than there are children, so the fewest gives nobody more than that.
    fair = [share for share in product(range(1, size + 1), repeat=size) if is_fair(ring, marks, share)]
    least = tuple(min(share[place] for share in fair) for place in range(size))
    if least not in fair:
        raise AssertionError("the fewest is not fair")
    return least


def longest_chains(ring, marks, child):
    """Every longest chain from child: each a neighbour of the one before it with a lower mark."""
    chains = [[child]]
    while True:
        longer = [
            chain + [other]
            for chain in chains
            for one, other in must_exceed(ring, marks)
            if one == chain[-1]
        ]
        if not longer:
            return chains
        chains = longer


def judged(ring, marks, share):
    if len(share) != len(marks):
        return [-1]
    for place, sweets in enumerate(share):
        if sweets == 0:
            return [-3, place]
    for one, other in must_exceed(ring, marks):
        if share[one] <= share[other]:
            return [-4, one]
    return [sum(share) - sum(fewest(ring, marks))]


@lru_cache(maxsize=None)
def all_shares(size, sweets):
    return [share for share in product(range(sweets + 1), repeat=size) if sum(share) == sweets]


def ways(ring, marks, sweets):
    return sum(1 for share in all_shares(len(marks), sweets) if is_fair(ring, marks, share))


def best_order(ring, marks):
    best = None
    for order in permutations(range(len(marks))):
        sweets = sum(fewest(ring, tuple(marks[place] for place in order)))
        if best is None or sweets < best[0]:
            best = [sweets, *order]
    return best


def small_groups(most_marks, most_children):
    """Every row and ring of at most so many children, with marks below most_marks."""
    for size in range(1, most_children + 1):
        for marks in product(range(most_marks), repeat=size):
            yield 0, marks
            if size >= 3:
                yield 1, marks
