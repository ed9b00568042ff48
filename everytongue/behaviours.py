"""What walks do at trees: in which states they leave them."""

from everytongue.checkers import is_any_tree, is_book, is_con
from everytongue.closing import closed_states, tree_state
from everytongue.kinds import is_each, is_integer
from everytongue.refusing import require
from everytongue.walkerchecker import is_walker
from everytongue.walking import rule_table


def behaviour_of(book, walker, tree):
    """The behaviour of the tree."""
    require(is_book(book), "book")
    require(is_walker(book, walker), "walker")
    require(is_any_tree(book, tree), "tree")
    return tree_state(book, behaviour_maker(walker), tree)


def behaviour_made(book, walker, con, behaviours):
    """The behaviour that con makes of those of its kids."""
    require(is_book(book), "book")
    require(is_walker(book, walker), "walker")
    require(is_con(book, con), "con")
    require(are_behaviours(book, walker, con, behaviours), "behaviours")
    make = behaviour_maker(walker)
    return make(con, behaviours)


def all_behaviours(book, walker):
    """For each sort the ascending tuple of the behaviours of its trees."""
    require(is_book(book), "book")
    require(is_walker(book, walker), "walker")
    return tuple([tuple(row) for row in behaviours_and_ways(book, walker)[0]])


def is_behaviour(walker, thing):
    """Whether thing has, for each state, a state or -1."""
    if not (is_each(thing, is_integer) and len(thing) == walker[1]):
        return False
    return all([-1 <= left < walker[1] for left in thing])


def are_behaviours(book, walker, con, thing):
    """Whether thing has, for each kid of con, what could be its behaviour."""
    if not (isinstance(thing, tuple) and len(thing) == len(book[2][con][1])):
        return False
    return all([is_behaviour(walker, behaviour) for behaviour in thing])


def followed(rules, con, behaviours, state):
    """The state in which a visit to con from this state leaves, -1 if it never does; and the rules used.

    Rules are told, in sequence, by their state, constructor and came.
    """
    used = {}
    key = (state, con, 0)
    while key in rules and key not in used:
        used[key] = True
        _, to, further = rules[key]
        if to == 0:
            return further, list(used)
        left = behaviours[to - 1][further]
        if left == -1:
            return -1, list(used)
        key = (left, con, to)
    return -1, list(used)


def made_behaviour(rules, states, con, behaviours):
    """The behaviour that con makes; rules are those of rule_table."""
    return tuple([followed(rules, con, behaviours, state)[0] for state in range(states)])


def behaviour_maker(walker):
    """The function that tells the behaviour which a constructor makes of those of its kids."""
    rules = rule_table(walker)
    return lambda con, kids: made_behaviour(rules, walker[1], con, kids)


def behaviours_and_ways(book, walker):
    """The behaviours of each sort's trees, and the ways in which they are made, as closed_states tells."""
    return closed_states(book, behaviour_maker(walker))
