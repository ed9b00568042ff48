"""What single values are, and what tuples of them are."""

from math import gcd

# The codes of newline, space, percent sign and quote: they part words.
BARRED = (10, 32, 37, 39)


def is_integer(thing):
    """Whether thing is an integer; True and False are none."""
    return isinstance(thing, int) and not isinstance(thing, bool)


def is_number(thing):
    """Whether thing is an integer of at least 0."""
    return is_integer(thing) and thing >= 0


def is_below(thing, many):
    """Whether thing is one of the first many numbers."""
    return is_number(thing) and thing < many


def is_word(thing):
    """Whether thing is a word."""
    if not (isinstance(thing, str) and 1 <= len(thing) <= 16):
        return False
    return not any([ord(sign) in BARRED for sign in thing])


def is_text(thing):
    """Whether thing is a tuple of words."""
    return is_each(thing, is_word)


def is_quotient(thing):
    """Whether thing is a quotient in lowest terms."""
    if not (is_each(thing, is_integer) and len(thing) == 2):
        return False
    return thing[1] >= 1 and gcd(thing[0], thing[1]) == 1


def is_tuple(thing):
    """Whether thing is a tuple."""
    return isinstance(thing, tuple)


def is_each(thing, holds):
    """Whether thing is a tuple and holds is true of each of its members."""
    return isinstance(thing, tuple) and all([holds(member) for member in thing])


def is_ascending(things):
    """Whether each of things, which can be compared, is above the one before."""
    return all([low < high for low, high in zip(things, things[1:])])


def is_order(thing, many):
    """Whether thing is a tuple of the first many numbers, each once."""
    return is_each(thing, is_number) and sorted(thing) == list(range(many))


def is_vocabulary(thing):
    """Whether thing is an ascending tuple of words."""
    return is_text(thing) and is_ascending(thing)
