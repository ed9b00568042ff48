"""The states of trees in tongues."""

from everytongue.behaviours import behaviour_maker, is_behaviour
from everytongue.checkers import is_any_tree, is_book, is_con
from everytongue.closing import closed_states, tree_state
from everytongue.graphs import ROW
from everytongue.refusing import require
from everytongue.tonguechecker import is_tongue
from everytongue.webshapes import is_web_state, made_shape


def state_of(book, tongue, tree):
    """The state of the tree."""
    require(is_book(book), "book")
    require(is_tongue(book, tongue), "tongue")
    require(is_any_tree(book, tree), "tree")
    return tree_state(book, state_maker(tongue), tree)


def state_made(book, tongue, con, states):
    """The state that con makes of those of its kids."""
    require(is_book(book), "book")
    require(is_tongue(book, tongue), "tongue")
    require(is_con(book, con), "con")
    require(are_states(book, tongue, con, states), "states")
    make = state_maker(tongue)
    return make(con, states)


def states_of(book, tongue):
    """For each sort the ascending tuple of the states of its trees."""
    require(is_book(book), "book")
    require(is_tongue(book, tongue), "tongue")
    return tuple([tuple(row) for row in closed_states(book, state_maker(tongue))[0]])


def state_says(book, tongue, state):
    """Whether a start tree with this state is said."""
    require(is_book(book), "book")
    require(is_tongue(book, tongue), "tongue")
    require(is_start_state(tongue, state), "state")
    return says_in(tongue, state)


def is_state(tongue, sort, thing):
    """Whether thing has the form of a state of the sort."""
    if tongue[0] == "walker":
        return is_behaviour(tongue, thing)
    if tongue[0] == "webs":
        return is_web_state(tongue[1][sort], thing)
    return thing == ()


def is_start_state(tongue, thing):
    """Whether thing has the form of a state of a start sort."""
    if tongue[0] == "webs":
        return is_web_state(2, thing)
    return is_state(tongue, 0, thing)


def are_states(book, tongue, con, thing):
    """Whether thing has, for each kid of con, what has the form of its state."""
    kids = book[2][con][1]
    if not (isinstance(thing, tuple) and len(thing) == len(kids)):
        return False
    return all([is_state(tongue, kid, state) for kid, state in zip(kids, thing)])


def state_maker(tongue):
    """The function that tells the state which a constructor makes of those of its kids."""
    if tongue[0] == "walker":
        return behaviour_maker(tongue)
    if tongue[0] == "webs":
        return lambda con, shapes: made_shape(tongue, con, shapes)
    return lambda con, states: ()


def says_in(tongue, state):
    """Whether the tongue says something of start trees in this state."""
    if tongue[0] == "walker":
        return state[0] != -1
    return tongue[0] != "webs" or state == ROW
