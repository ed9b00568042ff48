"""Types."""

from everytongue.kinds import is_below, is_each
from everytongue.refusing import require

LINE = (1, 0, 0)


def is_type(thing):
    """Whether thing is a type."""
    if not isinstance(thing, tuple):
        return False
    wanted = 1
    for sign in thing:
        if wanted == 0 or not is_below(sign, 2):
            return False
        wanted += 2 * sign - 1
    return wanted == 0


def type_order(ftype):
    """The order of the type."""
    require(is_type(ftype), "ftype")
    return order_of(ftype)


def type_parts(ftype):
    """The types from which the type leads to the atom."""
    require(is_type(ftype), "ftype")
    parts = []
    at = 0
    while ftype[at] == 1:
        end = type_end(ftype, at + 1)
        parts.append(ftype[at + 1:end])
        at = end
    return tuple(parts)


def type_from(parts):
    """The type that leads from these parts to the atom."""
    require(is_each(parts, is_type), "parts")
    return leading_type(parts, (0,))


def doors_of(ftype):
    """For each door, from the left, whether it is positive."""
    require(is_type(ftype), "ftype")
    return door_signs(ftype)


def type_end(ftype, at):
    """The place behind the type that begins at this place."""
    wanted = 1
    while wanted > 0:
        wanted += 2 * ftype[at] - 1
        at += 1
    return at


def leading_type(parts, result):
    """The type that leads from parts, one after the other, to result."""
    return tuple([sign for part in parts for sign in (1,) + part]) + result


def order_of(ftype):
    """The order of what is known to be a type."""
    orders = []
    for sign in ftype[::-1]:
        if sign == 0:
            orders.append(0)
        else:
            argument = orders.pop()
            orders.append(max(argument + 1, orders.pop()))
    return orders[0]


def door_signs(ftype):
    """For each door of what is known to be a type whether it is positive."""
    doors = []
    todo = [True]
    for sign in ftype:
        positive = todo.pop()
        if sign == 0:
            doors.append(positive)
        else:
            todo.extend([positive, not positive])
    return tuple(doors)


def door_count(ftype):
    """How many doors the type has."""
    return ftype.count(0)


def door_numbers(ftype):
    """For each door, from the left, its number among those that are positive as it is, or aren't, from the right."""
    numbers = []
    counts = {True: 0, False: 0}
    for positive in door_signs(ftype)[::-1]:
        numbers.append(counts[positive])
        counts[positive] += 1
    return numbers[::-1]
