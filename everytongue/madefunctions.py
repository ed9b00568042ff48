"""Forms of tongues of functions."""

from everytongue.checkers import is_book
from everytongue.closing import paired_book
from everytongue.erasing import trim_form
from everytongue.plugging import plugged_ways, shapes_and_ways, wired_con
from everytongue.refusing import require
from everytongue.silents import strike
from everytongue.termchecker import is_functions


def made_functions(book, functions):
    """The form of the tongue, with a sort for each sort and shape that stand in start trees."""
    require(is_book(book), "book")
    require(is_functions(book, functions), "functions")
    shapes, ways = shapes_and_ways(book, functions)
    pairs = [(sort, shape) for sort, row in enumerate(shapes) for shape in row]
    ways = sorted(ways)
    made = paired_book(book, pairs, ways)
    widths = tuple([len(shape) for _, shape in pairs])
    rows = [way_row(wired_con(book, functions, con), kids) for con, kids, _ in ways]
    said = ("pieces", widths, tuple(rows))
    made, erase, said = trim_form((made, tuple([con for con, _, _ in ways]), said))
    return (made, erase, strike(made, said))


def way_row(wired, shapes):
    """The row of pieces that a constructor's links make around kids of these shapes."""
    return tuple([piece for _, _, piece in plugged_ways(wired, shapes)])
