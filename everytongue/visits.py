"""The visits of walks to nodes."""

from everytongue.behaviours import are_behaviours, followed
from everytongue.checkers import is_book, is_con, is_start_tree
from everytongue.kinds import is_each, is_number
from everytongue.refusing import require
from everytongue.walkerchecker import is_walker
from everytongue.walking import rule_table, walked


def visits_of(book, walker, start_tree):
    """For each node the pairs of states in which it is entered and left, None if the walk does not end."""
    require(is_book(book), "book")
    require(is_walker(book, walker), "walker")
    require(is_start_tree(book, start_tree), "start_tree")
    word, steps = walked(book, walker, start_tree, 0)
    if word != "ended":
        return None
    rules = rule_table(walker)
    entered = [[] for _ in start_tree]
    left = [[] for _ in start_tree]
    for node, state, came in steps:
        if came == 0:
            entered[node].append(state)
        _, to, further = rules[(state, start_tree[node], came)]
        if to == 0:
            left[node].append(further)
    # In a walk that ends each visit is left before the next one begins.
    return tuple([tuple(zip(before, behind)) for before, behind in zip(entered, left)])


def kids_entered(book, walker, con, behaviours, entered):
    """For each kid the states in which visits to con enter it, None if these cannot be."""
    require(is_book(book), "book")
    require(is_walker(book, walker), "walker")
    require(is_con(book, con), "con")
    require(are_behaviours(book, walker, con, behaviours), "behaviours")
    require(are_states(walker, entered), "entered")
    told = told_visits(rule_table(walker), con, behaviours, entered)
    return None if told is None else told[0]


def are_states(walker, thing):
    """Whether thing is a tuple of unlike states of the walker."""
    if not is_each(thing, is_number) or not all([state < walker[1] for state in thing]):
        return False
    return len(set(thing)) == len(thing)


def told_visits(rules, con, behaviours, entered):
    """The states in which each kid is entered, and a piece for each visit; None as in kids_entered.

    The slots in the pieces stand for the kids' visits, which are numbered in their sequence.
    """
    kids = [[] for _ in behaviours]
    pieces = []
    for state in entered:
        left, used = followed(rules, con, behaviours, state)
        if left == -1:
            return None
        piece = []
        for key in used:
            words, to, further = rules[key]
            piece.extend(words)
            if to > 0 and further in kids[to - 1]:
                return None
            if to > 0:
                piece.append((to - 1, len(kids[to - 1])))
                kids[to - 1].append(further)
        pieces.append(tuple(piece))
    return tuple([tuple(row) for row in kids]), tuple(pieces)
