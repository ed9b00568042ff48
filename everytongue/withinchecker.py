"""The checker of what said_within tells."""

from everytongue.checkers import is_book, is_start_tree
from everytongue.closing import choices, tree_state
from everytongue.kinds import is_ascending, is_each, is_tuple
from everytongue.refusing import accept, require
from everytongue.states import is_state
from everytongue.tonguechecker import is_tongue
from everytongue.within import is_short, pair_maker


def lets_within(book, one, other, thing):
    """Return the first element of what said_within may tell."""
    require(is_book(book), "book")
    require(is_tongue(book, one), "one")
    require(is_tongue(book, other), "other")
    accept(within_fault(book, one, other, thing))
    return thing[0]


def within_fault(book, one, other, thing):
    """The first entry of lets_within's list that applies to thing, or None."""
    if not (isinstance(thing, tuple) and len(thing) == 2):
        return ("shape", -1)
    if thing[0] == "tree":
        return None if is_short_tree(book, one, other, thing[1]) else ("tree", -1)
    if thing[0] != "within":
        return ("shape", -1)
    return pairs_fault(book, one, other, lambda pair: is_short(one, other, pair), thing[1])


def is_short_tree(book, one, other, thing):
    """Whether thing is a start tree of which one says something, and other nothing."""
    if not is_start_tree(book, thing):
        return False
    return is_short(one, other, tree_state(book, pair_maker(one, other), thing))


def pairs_fault(book, one, other, fails, thing):
    """The first entry of lets_within's list that applies to what "within" tells, or None.

    fails tells of a pair of states of start trees that it must not be listed.
    """
    if not (is_each(thing, is_tuple) and len(thing) == book[0]):
        return ("pairs", -1)
    for sort, pairs in enumerate(thing):
        if not are_state_pairs(one, other, sort, pairs):
            return ("pairs", sort)
    make = pair_maker(one, other)
    listed = [{pair: True for pair in pairs} for pairs in thing]
    for con, (result, kids) in enumerate(book[2]):
        for row in choices([thing[kid] for kid in kids]):
            if make(con, row) not in listed[result]:
                return ("open", con)
    for start in book[1]:
        if any([fails(pair) for pair in thing[start]]):
            return ("start", start)
    return None


def are_state_pairs(one, other, sort, thing):
    """Whether the tuple thing has, ascending, pairs of what could be states of the sort."""
    for pair in thing:
        if not (isinstance(pair, tuple) and len(pair) == 2):
            return False
        if not (is_state(one, sort, pair[0]) and is_state(other, sort, pair[1])):
            return False
    return is_ascending(thing)
