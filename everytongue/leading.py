"""Blocks: a tongue for each width."""

from everytongue.kinds import is_integer
from everytongue.refusing import require

MOST_WIDTH = 12


def block_book():
    """The book of blocks: one constructor for the whole, one for each layer, one for the innermost."""
    return (2, (0,), ((0, (1,)), (1, (1,)), (1, ())))


def block_tongue(width):
    """The tongue in pieces that says of n layers n words "a", then n words "b", width times over."""
    require(is_integer(width) and 1 <= width <= MOST_WIDTH, "width")
    whole = (tuple([(0, piece) for piece in range(width)]),)
    layer = tuple([("a", (0, piece), "b") for piece in range(width)])
    return ("pieces", (1, width), (whole, layer, ((),) * width))
