"""The checker of machines."""

from everytongue.kinds import is_ascending, is_below, is_each, is_integer, is_number, is_word
from everytongue.refusing import accept


def lets_machine(thing):
    """Return how many states the machine has."""
    accept(machine_fault(thing))
    return thing[0]


def is_machine(thing):
    """Whether thing is a machine."""
    return machine_fault(thing) is None


def machine_fault(thing):
    """The first entry of lets_machine's list that applies to thing, or None."""
    if not (isinstance(thing, tuple) and len(thing) == 3):
        return ("shape", -1)
    states, finals, rows = thing
    if not (is_integer(states) and states >= 1):
        return ("states", -1)
    if not are_states(states, finals):
        return ("finals", -1)
    if not isinstance(rows, tuple):
        return ("rows", -1)
    for k, row in enumerate(rows):
        if not is_row(states, row):
            return ("row", k)
        if k > 0 and row[:2] <= rows[k - 1][:2]:
            return ("order", k)
    return None


def are_states(states, thing):
    """Whether thing is an ascending tuple of numbers below states."""
    if not is_each(thing, is_number) or not is_ascending(thing):
        return False
    return all([state < states for state in thing])


def is_row(states, thing):
    """Whether thing is a triple of a state, a word and a state."""
    if not (isinstance(thing, tuple) and len(thing) == 3):
        return False
    return is_below(thing[0], states) and is_word(thing[1]) and is_below(thing[2], states)
