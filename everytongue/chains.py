"""Shapes, and the chains in them."""

from everytongue.graphs import chains_in, leads_on
from everytongue.kinds import is_ascending, is_below, is_each, is_number
from everytongue.refusing import require


def is_shape(rank, thing):
    """Whether thing is a shape of this rank."""
    require(is_number(rank), "rank")
    return is_shape_of(rank, thing)


def chains_of(rank, shape):
    """The ascending tuple of the chains of the shape."""
    require(is_number(rank), "rank")
    require(is_shape_of(rank, shape), "shape")
    return tuple(chains_in(shape))


def lone_doors(rank, shape):
    """The ascending tuple of the doors that stand in no pair of the shape."""
    require(is_number(rank), "rank")
    require(is_shape_of(rank, shape), "shape")
    return tuple(doors_left(rank, shape))


def is_shape_of(rank, thing):
    """Whether thing is a shape of what is known to be a rank."""
    if not is_each(thing, is_door_pair) or not is_ascending(thing):
        return False
    froms = [first for first, _ in thing]
    others = [last for _, last in thing]
    if not all([is_below(door, rank) for door in froms + others]):
        return False
    if len(set(froms)) != len(thing) or len(set(others)) != len(thing):
        return False
    return leads_on(thing)


def is_door_pair(thing):
    """Whether thing is a pair of numbers."""
    return is_each(thing, is_number) and len(thing) == 2


def doors_left(rank, shape):
    """The ascending list of the doors that stand in no pair."""
    seen = {door: True for pair in shape for door in pair}
    return [door for door in range(rank) if door not in seen]
