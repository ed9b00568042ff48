"""Whether one tongue says each start tree that another one says."""

from everytongue.checkers import is_book
from everytongue.closing import closed_states, paired_book
from everytongue.leasttrees import first_roots, grown_tree
from everytongue.refusing import bound_nodes, require
from everytongue.states import says_in, state_maker
from everytongue.tonguechecker import is_tongue


def state_pairs(book, one, other):
    """For each sort the ascending tuple of the pairs of states that its trees have."""
    require(is_book(book), "book")
    require(is_tongue(book, one), "one")
    require(is_tongue(book, other), "other")
    return tuple([tuple(row) for row in pairs_and_ways(book, one, other)[0]])


def said_within(book, one, other):
    """The paper that tells that other says what one says, or the first start tree at which it doesn't."""
    require(is_book(book), "book")
    require(is_tongue(book, one), "one")
    require(is_tongue(book, other), "other")
    rows, ways = pairs_and_ways(book, one, other)
    pairs = [(sort, pair) for sort, row in enumerate(rows) for pair in row]
    erase = [con for con, _, _ in ways]
    made = paired_book(book, pairs, ways)
    found = first_roots(made, erase)
    for start in found:
        if start in made[1] and is_short(one, other, pairs[start][1]):
            bound_nodes(found[start][0])
            roots = {sort: con for sort, (_, con) in found.items()}
            return ("tree", tuple([erase[con] for con in grown_tree(made, roots, start)]))
    return ("within", tuple([tuple(row) for row in rows]))


def pair_maker(one, other):
    """The function that tells the pair of states which a constructor makes of those of its kids."""
    make, make_other = state_maker(one), state_maker(other)
    return lambda con, pairs: (make(con, firsts(pairs)), make_other(con, seconds(pairs)))


def firsts(pairs):
    """The first members of the pairs."""
    return tuple([first for first, _ in pairs])


def seconds(pairs):
    """The second members of the pairs."""
    return tuple([second for _, second in pairs])


def pairs_and_ways(book, one, other):
    """The pairs of states of each sort's trees, and the ways in which they are made, as closed_states tells."""
    return closed_states(book, pair_maker(one, other))


def is_short(one, other, pair):
    """Whether one says something of start trees with these states, and other nothing."""
    return says_in(one, pair[0]) and not says_in(other, pair[1])
