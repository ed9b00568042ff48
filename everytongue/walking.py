"""Walks through trees."""

from everytongue.checkers import is_any_tree, is_book, is_start_tree
from everytongue.kinds import is_below
from everytongue.refusing import require
from everytongue.trees import kid_places, parent_places
from everytongue.walkerchecker import is_walker


def walk_steps(book, walker, tree, state):
    """How the walk goes from the root in this state: a word, and the places to which it comes."""
    require(is_book(book), "book")
    require(is_walker(book, walker), "walker")
    require(is_any_tree(book, tree), "tree")
    require(is_below(state, walker[1]), "state")
    return walked(book, walker, tree, state)


def walk_text(book, walker, start_tree):
    """The text that the walker says of the start tree, None if it is unsaid."""
    require(is_book(book), "book")
    require(is_walker(book, walker), "walker")
    require(is_start_tree(book, start_tree), "start_tree")
    return walked_text(book, walker, start_tree)


def rule_table(walker):
    """The words, to and next of each rule, by its state, constructor and came."""
    rules = {}
    for state, con, came, words, to, further in walker[2]:
        rules[(state, con, came)] = (words, to, further)
    return rules


def walked(book, walker, tree, state):
    """How the walk through a tree goes, as walk_steps tells."""
    rules = rule_table(walker)
    places = kid_places(book, tree)
    parents = parent_places(places)
    seen = {}
    node, came = 0, 0
    while (node, state, came) not in seen:
        seen[(node, state, came)] = True
        key = (state, tree[node], came)
        if key not in rules:
            return ("stuck", tuple(seen))
        _, to, state = rules[key]
        if to > 0:
            node, came = places[node][to - 1], 0
        elif node == 0:
            return ("ended", tuple(seen))
        else:
            node, came = parents[node][0], parents[node][1] + 1
    return ("round", tuple(seen))


def walked_text(book, walker, tree):
    """The words that the walk from state 0 says, None if it does not end."""
    word, steps = walked(book, walker, tree, 0)
    if word != "ended":
        return None
    rules = rule_table(walker)
    return tuple([said for node, state, came in steps for said in rules[(state, tree[node], came)][0]])
