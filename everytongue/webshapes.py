"""The shapes that constructors of webs make of those of their kids."""

from everytongue.chains import is_door_pair, is_shape_of
from everytongue.checkers import is_book, is_con
from everytongue.closing import closed_states
from everytongue.graphs import DEAD, chains_in, shape_in
from everytongue.kinds import is_each
from everytongue.refusing import require
from everytongue.webchecker import is_webs


def shape_made(book, webs, con, shapes):
    """The shape that con makes of those of its kids."""
    require(is_book(book), "book")
    require(is_webs(book, webs), "webs")
    require(is_con(book, con), "con")
    require(are_web_states(book, webs, con, shapes), "shapes")
    return made_shape(webs, con, shapes)


def web_states(book, webs):
    """For each sort the ascending tuple of the states of its trees."""
    require(is_book(book), "book")
    require(is_webs(book, webs), "webs")
    return tuple([tuple(row) for row in shapes_and_ways(book, webs)[0]])


def is_web_state(rank, thing):
    """Whether thing is a shape of this rank or that of dead graphs."""
    return is_shape_of(rank, thing) or is_dead_shape(thing)


def is_dead_shape(thing):
    """Whether thing is the shape of dead graphs."""
    return is_each(thing, is_door_pair) and thing == DEAD


def are_web_states(book, webs, con, thing):
    """Whether thing has, for each kid of con, what could be its shape."""
    kids = book[2][con][1]
    if not (isinstance(thing, tuple) and len(thing) == len(kids)):
        return False
    return all([is_web_state(webs[1][kid], shape) for kid, shape in zip(kids, thing)])


def made_shape(webs, con, shapes):
    """The shape that con makes, as shape_made tells."""
    if DEAD in shapes:
        return DEAD
    return shape_in(con_graph(webs, con, shapes))


def con_graph(webs, con, shapes):
    """The graph of con around kids of these shapes, which are not dead.

    In the place of words the chains of the kids have slots, at their first links.
    """
    size, doors, edges, args = webs[2][con]
    numbers = {node: number for number, node in enumerate(doors)}
    for node in range(size):
        if node not in numbers:
            numbers[node] = len(numbers)
    rows = [(numbers[first], numbers[last], words) for first, last, words in edges]
    for kid, shape in enumerate(shapes):
        nodes = [numbers[node] for node in args[kid]]
        for place, chain in enumerate(chains_in(shape)):
            said = ((kid, place),)
            for first, last in zip(chain, chain[1:]):
                rows.append((nodes[first], nodes[last], said))
                said = ()
    return (len(doors), size, tuple(rows))


def shapes_and_ways(book, webs):
    """The shapes of each sort's trees, and the ways in which they are made, as closed_states tells."""
    return closed_states(book, lambda con, shapes: made_shape(webs, con, shapes))
