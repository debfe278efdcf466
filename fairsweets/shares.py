"""Fair shares of sweets among children who stand in a row (ring 0) or in a ring (ring 1).

Nothing is kept here: each function is handed the ring and the marks, by the children's places.
"""


def neighbour_pairs(ring, size):
    """Every two places that are next to each other, the lower one first."""
    pairs = [(place, place + 1) for place in range(size - 1)]
    if ring == 1:
        pairs.append((0, size - 1))
    return pairs


def better_pairs(ring, marks):
    """Every child with each neighbour that has a lower mark: (the better one's place, the other's)."""
    pairs = []
    for low, high in neighbour_pairs(ring, len(marks)):
        if marks[low] > marks[high]:
            pairs.append((low, high))
        if marks[low] < marks[high]:
            pairs.append((high, low))
    return pairs


def fewest_share(ring, marks):
    """The fair share in which no child gets more than in any other fair share."""
    share = [1] * len(marks)
    # By rising marks: what the worse one gets is settled before the better one's is taken from it.
    for better, worse in sorted(better_pairs(ring, marks), key=lambda pair: marks[pair[0]]):
        share[better] = max(share[better], share[worse] + 1)
    return share


def fewest_sweets(ring, marks):
    """How many sweets the fewest are together."""
    return sum(fewest_share(ring, marks))


def longest_chain(ring, marks, child):
    """The places from child on, each a neighbour of the one before with just one sweet fewer."""
    pairs = better_pairs(ring, marks)
    share = fewest_share(ring, marks)
    chain = [child]
    # Who gets one sweet has no neighbour with a lower mark; who gets more has one with just one fewer.
    while share[chain[-1]] > 1:
        last = chain[-1]
        chain.append(min([worse for better, worse in pairs if better == last and share[worse] == share[last] - 1]))
    return chain


def without_sweets(share):
    """The places of those who get none, the first one first."""
    return [place for place, sweets in enumerate(share) if sweets < 1]


def treated_unfairly(ring, marks, share):
    """The places of those who get no more than a neighbour with a lower mark, the first one first."""
    return sorted([better for better, worse in better_pairs(ring, marks) if share[better] <= share[worse]])


def shares_of(size, sweets):
    """Every share of just so many sweets among so many children, fair or not, in which each gets some."""
    shares = [[]]
    for place in range(size - 1):
        longer = []
        for share in shares:
            # One sweet at least has to be left for each child behind this one.
            most = sweets - sum(share) - (size - 1 - place)
            for given in range(1, most + 1):
                longer.append(share + [given])
        shares = longer
    return [share + [sweets - sum(share)] for share in shares if sum(share) < sweets]


def count_fair(ring, marks, sweets):
    """How many fair shares there are of just so many sweets."""
    pairs = better_pairs(ring, marks)
    fair = 0
    for share in shares_of(len(marks), sweets):
        if all([share[better] > share[worse] for better, worse in pairs]):
            fair += 1
    return fair


def all_orders(size):
    """Every order of the places, as lists, the first one first."""
    orders = [[]]
    for length in range(size):
        longer = []
        for order in orders:
            longer.extend([order + [place] for place in range(size) if place not in order])
        orders = longer
    return orders


def best_order(ring, marks):
    """How many sweets do at the fewest if the children stand otherwise, then the first order that does.

    An order tells, place by place, where the child who is to stand there stands now.
    """
    found = []
    for order in all_orders(len(marks)):
        found.append([fewest_sweets(ring, [marks[place] for place in order])] + order)
    # Lists are compared number by number, so fewer sweets count ahead of the order itself.
    return min(found)


def other_mark(marks, child, new):
    """The marks as they are with the new one for that child."""
    changed = list(marks)
    changed[child] = new
    return changed


def changed_places(marks, child, other):
    """The marks as they are once these two have changed places; they may be one."""
    return other_mark(other_mark(marks, child, marks[other]), other, marks[child])


def best_exchange(ring, marks):
    """How many sweets do at the fewest once two have changed places, then the first two with whom they do.

    There are two children at least.
    """
    found = []
    for high in range(len(marks)):
        for low in range(high):
            found.append([fewest_sweets(ring, changed_places(marks, low, high)), low, high])
    # As with orders, fewer sweets count first, then the lower places.
    return min(found)
