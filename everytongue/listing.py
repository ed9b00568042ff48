"""Bases: trees whose pair vectors add up to those of all trees.

A pair vector is told as the pair of the vector of what a tree says in one tongue and that of
what it says in another one.
"""

from heapq import heappop, heappush

from everytongue.checkers import is_book
from everytongue.closing import kid_positions, new_rows
from everytongue.codes import digit_numbers
from everytongue.common import both_form, pair_words
from everytongue.refusing import require
from everytongue.spaces import Space
from everytongue.tonguechecker import is_tongue
from everytongue.twists import is_twist, turned_pieces
from everytongue.vectors import entry_count, made_vector, vector_plan


def listed(book, one, other, twist):
    """A base of the common form of one and other, by the twist."""
    require(is_book(book), "book")
    require(is_tongue(book, one), "one")
    require(is_tongue(book, other), "other")
    require(is_twist(twist), "twist")
    common = both_form(book, one, other)
    plans = pair_plans(common, twist)
    return told_base(listed_trees(common, common[1], plans, lambda size, start, pair: False)[0])


def told_base(found):
    """The base that listed_trees found."""
    return tuple([tuple([row[3] for row in rows]) for rows in found])


def pair_plans(common, twist):
    """For each constructor of a common form how it makes pair vectors: one plan for each of the tongues."""
    made, _, said, other_said = common
    turned_said = turned_pieces(other_said, twist)
    numbers = digit_numbers(pair_words(said, turned_said))
    known = {}
    plans = []
    for (_, kids), row, turned_row in zip(made[2], said[2], turned_said[2]):
        widths = tuple([said[1][kid] for kid in kids])
        turned_widths = tuple([turned_said[1][kid] for kid in kids])
        plans.append((known_plan(known, widths, row, numbers), known_plan(known, turned_widths, turned_row, numbers)))
    return plans


def known_plan(known, widths, row, numbers):
    """The plan for kids of these widths and the row; known has those told before, as many constructors share one."""
    if (widths, row) not in known:
        known[(widths, row)] = vector_plan(widths, row, numbers)
    return known[(widths, row)]


def made_pair(plan, pairs):
    """The pair vector that a constructor with this pair of plans makes of those of its kids."""
    firsts = made_vector(plan[0], [first for first, _ in pairs])
    return (firsts, made_vector(plan[1], [second for _, second in pairs]))


def is_unlike(pair):
    """Whether the two texts of a start tree with this pair vector are unlike."""
    # A vector of one text is its code, in which its number tells it.
    return pair[0][1] != pair[1][1]


def listed_trees(common, erase, plans, ends):
    """For each sort its listed trees, what the trees made of listed ones are sums of, and what ended it.

    All trees, by the order of trees as erased, are gone through as far as this: of those of a sort whose
    pair vector is a sum of others', no greater ones are made. Each listed tree is told by its size, its
    place in the order, its pair vector, and the pair of its root and the places of its kids' trees.
    The sums are told by the root and the places of kids' trees. As soon as ends is true of a tree's size,
    whether it is a start tree, and its pair vector, its size, root and kids' places are told; otherwise ().
    """
    made = common[0]
    found = [[] for _ in range(made[0])]
    spaces = [Space(entry_count(width) + entry_count(other)) for width, other in zip(common[2][1], common[3][1])]
    gone = [[] for _ in range(made[0])]
    sums = {}
    positions = kid_positions(made)
    queue = sorted([tree_entry(found, erase, con, kids, ()) for con, (_, kids) in enumerate(made[2]) if not kids])
    last, place = (), 0
    while queue:
        entry = heappop(queue)
        size, con, places = entry[0], entry[4], entry[5]
        sort, kids = made[2][con]
        pair = made_pair(plans[con], [found[kid][at][2] for kid, at in zip(kids, places)])
        if ends(size, sort in made[1], pair):
            return found, sums, (size, con, places)
        sums[(con, places)] = spaces[sort].parts(pair[0] + pair[1])
        if sums[(con, places)] is not None:
            continue
        spaces[sort].take(pair[0] + pair[1])
        many = len(found[sort])
        sums[(con, places)] = ((0, 1),) * many + ((1, 1),)
        # Trees of several sorts that erase alike share one place.
        if entry[:4] != last:
            last, place = entry[:4], place + 1
        found[sort].append((size, place, pair, (con, places)))
        for further, at in positions[sort]:
            for _, row in new_rows(made, gone, further, at, many):
                heappush(queue, tree_entry(found, erase, further, made[2][further][1], row))
        gone[sort].append(many)
    return found, sums, ()


def tree_entry(found, erase, con, kids, places):
    """What tells the place of a tree in the order, by listed trees of its kids; then its root and their places."""
    rows = [found[kid][place] for kid, place in zip(kids, places)]
    sizes = tuple([row[0] for row in rows])
    return (1 + sum(sizes), erase[con], sizes, tuple([row[1] for row in rows]), con, places)


def grown_from(made, base, con, places):
    """The tree whose root is con, its kids' trees being those at these places of the base."""
    nodes = []
    todo = [(con, places)]
    while todo:
        con, places = todo.pop()
        nodes.append(con)
        rows = [base[kid][place] for kid, place in zip(made[2][con][1], places)]
        todo.extend(rows[::-1])
    return nodes
