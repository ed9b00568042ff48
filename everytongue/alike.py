"""Whether two tongues say the same of each start tree, by a twist."""

from everytongue.checkers import is_book, is_start_tree
from everytongue.closing import choices
from everytongue.common import both_form
from everytongue.listing import grown_from, is_unlike, listed_trees, pair_plans, told_base
from everytongue.numbering import tree_key
from everytongue.refusing import MOST_NODES, bound_nodes, require
from everytongue.speaking import text_said
from everytongue.tonguechecker import is_tongue
from everytongue.twists import is_twist, turned
from everytongue.within import first_small, first_such, is_uneven, pairs_and_ways


def parts_at(book, one, other, twist, start_tree):
    """Whether one and other part at the start tree, by the twist."""
    require(is_book(book), "book")
    require(is_tongue(book, one), "one")
    require(is_tongue(book, other), "other")
    require(is_twist(twist), "twist")
    require(is_start_tree(book, start_tree), "start_tree")
    return is_parted(book, one, other, twist, start_tree)


def alike(book, one, other, twist):
    """The first start tree at which one and other part, by the twist, or a paper that there is none."""
    require(is_book(book), "book")
    require(is_tongue(book, one), "one")
    require(is_tongue(book, other), "other")
    require(is_twist(twist), "twist")
    erase = tuple(range(len(book[2])))
    size, tree, paper = first_parted(book, erase, one, other, twist)
    if size > 0:
        bound_nodes(size)
        return ("part", tree)
    return ("alike", paper)


def is_parted(book, one, other, twist, tree):
    """What parts_at returns."""
    text, other_text = text_said(book, one, tree), text_said(book, other, tree)
    if text is None or other_text is None:
        return text != other_text
    return text != turned(other_text, twist)


def first_parted(book, erase, one, other, twist):
    """The size of the first start tree, by the order of trees as erased, at which one and other part.

    Then this tree, () if it has too many nodes. Instead 0, () and the paper that there is none.
    """
    # Most tongues that part do so at a small tree, and are not led into forms then.
    tree = first_small(book, erase, lambda small: is_parted(book, one, other, twist, small))
    if tree:
        return len(tree), tree, ()
    rows, ways = pairs_and_ways(book, one, other)
    size, tree = first_such(book, erase, rows, ways, lambda pair: is_uneven(one, other, pair))
    common = both_form(book, one, other)
    own = common[1]
    ends = lambda many, start, pair: start and is_unlike(pair) or 0 < size < many
    found, sums, end = listed_trees(common, [erase[con] for con in own], pair_plans(common, twist), ends)
    base = told_base(found)
    if not end and size == 0:
        return 0, (), (tuple([tuple(row) for row in rows]), base, told_sums(common[0], base, sums))
    # What ended the list may be greater than the first tree that is said by one alone.
    if not end or 0 < size < end[0]:
        return size, tree, ()
    if end[0] > MOST_NODES:
        return end[0], (), ()
    parted = tuple([own[con] for con in grown_from(common[0], base, end[1], end[2])])
    if size == end[0] and tree_key(book, tree, erase) < tree_key(book, parted, erase):
        return size, tree, ()
    return end[0], parted, ()


def told_sums(made, base, sums):
    """For each constructor, and each choice of the base's trees for its kids, the quotients that tell what it makes."""
    told = []
    for con, (result, kids) in enumerate(made[2]):
        rows = []
        for places in choices([list(range(len(base[kid]))) for kid in kids]):
            parts = sums[(con, places)]
            rows.append(parts + ((0, 1),) * (len(base[result]) - len(parts)))
        told.append(tuple(rows))
    return tuple(told)
