"""How parameters, papers and results are refused."""

from everytongue.errors import InvalidPaper, NotUsable, TooMuch

MOST_NODES = 1000


def require(holds, name):
    """Refuse the parameter with this name if it is not as stated."""
    if not holds:
        raise NotUsable(name, -1)


def accept(fault):
    """Refuse a paper with this fault, a pair of a word and a place, or None."""
    if fault is not None:
        raise InvalidPaper(fault[0], fault[1])


def bound_nodes(many):
    """Refuse to return a tree or context of too many nodes."""
    if many > MOST_NODES:
        raise TooMuch("tree")


def count_limit():
    """The least number of trees that is too much: 10 to the power of 4000."""
    return ((10 ** 40) ** 50) ** 2


def bound_count(many):
    """Refuse to return a number of trees that is too great."""
    if many >= count_limit():
        raise TooMuch("count")


def capped(many):
    """The number of trees, or the limit of counts if it is beyond that."""
    # Small numbers, and most are, need not be compared with so great a one.
    if many.bit_length() < 10000:
        return many
    return min(many, count_limit())
