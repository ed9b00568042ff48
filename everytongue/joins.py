"""Joins: the states that kids' items put between the slots of a row.

The slots of a piece lie between points: one ahead of its first slot, behind the words
that begin the piece; one behind each slot and the words that follow it. An item of a
kid tells the states at the points around its slots, and two items stand together if
they tell the same where slots of both meet.
"""

from everytongue.machines import led_on


def row_points(widths, kids, row):
    """The ends of each piece, then for each kid its spots, then the points around these.

    The ends of a piece are the words ahead of its first slot, its first point and its last
    one; without slots all its words and -1, -1. The spot of a slot are the points ahead of
    it and behind it, and the words behind it.
    """
    ends = []
    spots = {}
    many = 0
    for piece in row:
        slots = [item for item in piece if isinstance(item, tuple)]
        stretches = word_stretches(piece)
        if not slots:
            ends.append((stretches[0], -1, -1))
            continue
        ends.append((stretches[0], many, many + len(slots)))
        for slot, words in zip(slots, stretches[1:]):
            spots[slot] = (many, many + 1, words)
            many += 1
        many += 1
    around = []
    for k, kid in enumerate(kids):
        around.append([spots[(k, piece)] for piece in range(widths[kid])])
    return ends, around, {k: points_around(spot) for k, spot in enumerate(around)}


def word_stretches(piece):
    """The texts ahead of, between and behind the slots of a piece."""
    stretches = [[]]
    for item in piece:
        if isinstance(item, str):
            stretches[-1].append(item)
        else:
            stretches.append([])
    return [tuple(words) for words in stretches]


def points_around(spots):
    """The ascending list of the points around a kid's slots."""
    return sorted(set([point for before, behind, _ in spots for point in (before, behind)]))


def states_around(moves, spots, item):
    """The state at each point around a kid's slots if it has this item; None if the item cannot stand there."""
    states = {}
    for (first, last), (before, behind, words) in zip(item, spots):
        left = led_on(moves, last, words)
        if left == -1 or states.setdefault(before, first) != first or states.setdefault(behind, left) != left:
            return None
    return states


def join_plan(points, known, outer):
    """In which sequence kids are joined: triples of the kid, the points known already and those to keep.

    points has those of each kid that is to be joined; known and outer are lists of points:
    of those at which the states are known at first, and of those that matter at last.
    """
    plan = []
    while points:
        # A kid that meets what is known goes ahead, and then one that adds few points.
        kid = min([(all_new(around, known), count_new(around, known), k) for k, around in points.items()])[2]
        shared = tuple([point for point in points[kid] if point in known])
        known = known + points[kid]
        points = {k: points[k] for k in points if k != kid}
        needed = outer + [point for around in points.values() for point in around]
        known = sorted(set([point for point in known if point in needed]))
        plan.append((kid, shared, tuple(known)))
    return plan


def count_new(points, known):
    """How many of the points are not known."""
    return len([point for point in points if point not in known])


def all_new(points, known):
    """Whether none of the points is known."""
    return count_new(points, known) == len(points)


def states_at(points, states):
    """The states at these points."""
    return tuple([states[point] for point in points])


def merged(points, one, other):
    """The states at these points, each of which one of them tells or the other one does."""
    return tuple([one[point] if point in one else other[point] for point in points])
