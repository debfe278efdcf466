"""The document's words, searched through plainly: slow, and sharing nothing with the program."""

from functools import lru_cache
from itertools import combinations, permutations, product


def are_neighbours(ring, size, one, other):
    apart = abs(one - other)
    return apart == 1 or (ring == 1 and apart == size - 1)


@lru_cache(maxsize=None)
def must_exceed(ring, marks):
    """Every (place, place of a neighbour with a lower mark), in order."""
    size = len(marks)
    return [
        (one, other)
        for one in range(size)
        for other in range(size)
        if are_neighbours(ring, size, one, other) and marks[one] > marks[other]
    ]


def is_fair(ring, marks, share):
    return min(share) >= 1 and all(share[one] > share[other] for one, other in must_exceed(ring, marks))


@lru_cache(maxsize=None)
def fewest(ring, marks):
    """The fair share that has no more for any child than any other fair share has."""
    size = len(marks)
    # No chain is longer than there are children, so the fewest gives nobody more than that.
    fair = [share for share in product(range(1, size + 1), repeat=size) if is_fair(ring, marks, share)]
    least = tuple(min(share[place] for share in fair) for place in range(size))
    if least not in fair:
        raise AssertionError("the fewest is not fair")
    return least


@lru_cache(maxsize=None)
def fewest_by_chains(ring, marks):
    """The same share, each child's by its longest chain: for six children, where all shares are too many."""
    return tuple(len(longest_chains(ring, marks, child)[0]) for child in range(len(marks)))


def longest_chains(ring, marks, child):
    """Every longest chain from child: each a neighbour of the one before it with a lower mark."""
    chains = [[child]]
    while True:
        longer = [
            chain + [other]
            for chain in chains
            for one, other in must_exceed(ring, marks)
            if one == chain[-1]
        ]
        if not longer:
            return chains
        chains = longer


def judged(ring, marks, share, fewest=fewest):
    if len(share) != len(marks):
        return [-1]
    for place, sweets in enumerate(share):
        if sweets == 0:
            return [-3, place]
    for one, other in must_exceed(ring, marks):
        if share[one] <= share[other]:
            return [-4, one]
    return [sum(share) - sum(fewest(ring, marks))]


@lru_cache(maxsize=None)
def all_shares(size, sweets):
    return [share for share in product(range(sweets + 1), repeat=size) if sum(share) == sweets]


def ways(ring, marks, sweets):
    return sum(1 for share in all_shares(len(marks), sweets) if is_fair(ring, marks, share))


def ways_of_cutting(ring, marks, sweets):
    """The same number: the sweets lie in a row, which is cut into a part for each child."""
    fair = 0
    for cuts in combinations(range(1, sweets), len(marks) - 1):
        ends = (0, *cuts, sweets)
        fair += is_fair(ring, marks, [end - start for start, end in zip(ends, ends[1:])])
    return fair


def best_order(ring, marks, fewest=fewest):
    best = None
    for order in permutations(range(len(marks))):
        sweets = sum(fewest(ring, tuple(marks[place] for place in order)))
        if best is None or sweets < best[0]:
            best = [sweets, *order]
    return best


def changed_places(marks, one, other):
    """The marks, place by place, once these two have changed places."""
    comes_from = {one: other, other: one}
    return tuple(marks[comes_from.get(place, place)] for place in range(len(marks)))


def best_exchange(ring, marks, fewest=fewest):
    best = [-6]
    for low, high in combinations(range(len(marks)), 2):
        sweets = sum(fewest(ring, changed_places(marks, low, high)))
        if best == [-6] or sweets < best[0]:
            best = [sweets, low, high]
    return best


def marks_with(marks, child, new):
    return (*marks[:child], new, *marks[child + 1:])


def what_would_be(ring, marks, child, new, fewest=fewest):
    share = fewest(ring, marks_with(marks, child, new))
    return [sum(share), share[child]]


def small_groups(most_marks, most_children):
    """Every row and ring of at most so many children, with marks below most_marks."""
    for size in range(1, most_children + 1):
        for marks in product(range(most_marks), repeat=size):
            yield 0, marks
            if size >= 3:
                yield 1, marks


def every_kind_of_group(size):
    """Every row and ring of so many children, but for marks that compare just as those of another one do."""
    for marks in product(range(size), repeat=size):
        if set(marks) == set(range(max(marks) + 1)):
            yield 0, marks
            if size >= 3:
                yield 1, marks
