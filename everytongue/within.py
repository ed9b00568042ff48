"""Whether one tongue says each start tree that another one says."""

from everytongue.checkers import is_book
from everytongue.closing import closed_states, paired_book, remembered, tree_state
from everytongue.leasttrees import first_roots, grown_tree
from everytongue.numbering import tree_key
from everytongue.refusing import MOST_NODES, bound_nodes, require
from everytongue.states import says_in, state_maker
from everytongue.tonguechecker import is_tongue
from everytongue.treelists import small_trees


def state_pairs(book, one, other):
    """For each sort the ascending tuple of the pairs of states that its trees have."""
    require(is_book(book), "book")
    require(is_tongue(book, one), "one")
    require(is_tongue(book, other), "other")
    return tuple([tuple(row) for row in pairs_and_ways(book, one, other)[0]])


def said_within(book, one, other):
    """The paper that tells that other says what one says, or the first start tree at which it doesn't."""
    require(is_book(book), "book")
    require(is_tongue(book, one), "one")
    require(is_tongue(book, other), "other")
    erase = list(range(len(book[2])))
    make = pair_maker(one, other)
    tree = first_small(book, erase, lambda small: is_short(one, other, tree_state(book, make, small)))
    if tree:
        return ("tree", tree)
    rows, ways = pairs_and_ways(book, one, other)
    size, tree = first_such(book, erase, rows, ways, lambda pair: is_short(one, other, pair))
    if size > 0:
        bound_nodes(size)
        return ("tree", tree)
    return ("within", tuple([tuple(row) for row in rows]))


def first_small(book, erase, holds):
    """The first start tree, by the order of trees as erased, of which holds is true, if it is a small one; else ()."""
    for tree in sorted(small_trees(book, 60, 30), key=lambda small: tree_key(book, small, erase)):
        if holds(tree):
            return tree
    return ()


def first_such(book, erase, rows, ways, holds):
    """The size of the first start tree, by the order of trees as erased, of whose pair of states holds is true.

    Then this tree, or () if it has too many nodes; 0 and () if there is none. rows and ways are what
    pairs_and_ways tells.
    """
    pairs = [(sort, pair) for sort, row in enumerate(rows) for pair in row]
    made = paired_book(book, pairs, ways)
    found = first_roots(made, [erase[con] for con, _, _ in ways])
    for start, (size, _) in found.items():
        if start in made[1] and holds(pairs[start][1]):
            if size > MOST_NODES:
                return size, ()
            roots = {sort: con for sort, (_, con) in found.items()}
            return size, tuple([ways[con][0] for con in grown_tree(made, roots, start)])
    return 0, ()


def pair_maker(one, other):
    """The function that tells the pair of states which a constructor makes of those of its kids."""
    # Pairs are many, while the states of one tongue alone may be few.
    make, make_other = remembered(state_maker(one)), remembered(state_maker(other))
    return lambda con, pairs: (make(con, firsts(pairs)), make_other(con, seconds(pairs)))


def firsts(pairs):
    """The first members of the pairs."""
    return tuple([first for first, _ in pairs])


def seconds(pairs):
    """The second members of the pairs."""
    return tuple([second for _, second in pairs])


def pairs_and_ways(book, one, other):
    """The pairs of states of each sort's trees, and the ways in which they are made, as closed_states tells."""
    return closed_states(book, pair_maker(one, other))


def is_short(one, other, pair):
    """Whether one says something of start trees with these states, and other nothing."""
    return says_in(one, pair[0]) and not says_in(other, pair[1])


def is_uneven(one, other, pair):
    """Whether one of two tongues alone says something of start trees with these states."""
    return says_in(one, pair[0]) != says_in(other, pair[1])
