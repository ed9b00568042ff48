"""The checker of tongues in pieces."""

from everytongue.checkers import is_book
from everytongue.kinds import is_below, is_each, is_integer, is_tuple, is_word
from everytongue.refusing import accept, require


def lets_pieces(book, thing):
    """Return the greatest width, 0 without sorts."""
    require(is_book(book), "book")
    accept(pieces_fault(book, thing))
    return max(thing[1], default=0)


def is_pieces(book, thing):
    """Whether thing is a tongue of the book in pieces."""
    return pieces_fault(book, thing) is None


def pieces_fault(book, thing):
    """The first entry of lets_pieces's list that applies to thing, or None."""
    if not (isinstance(thing, tuple) and len(thing) == 3 and thing[0] == "pieces"):
        return ("shape", -1)
    _, widths, rows = thing
    if not are_widths(book, widths):
        return ("widths", -1)
    if not (isinstance(rows, tuple) and len(rows) == len(book[2])):
        return ("rows", -1)
    for con, row in enumerate(rows):
        word = row_fault(widths, book[2][con], row)
        if word != "":
            return (word, con)
    return None


def are_widths(book, thing):
    """Whether thing has a width for each sort, 1 for start sorts."""
    if not (is_each(thing, is_integer) and len(thing) == book[0]):
        return False
    return all([width >= 1 for width in thing]) and all([thing[start] == 1 for start in book[1]])


def row_fault(widths, con, row):
    """The first word that applies to the row of a constructor, or the empty string."""
    result, kids = con
    if not (is_each(row, is_tuple) and len(row) == widths[result]):
        return "row"
    slots = [item for piece in row for item in piece if not is_word(item)]
    if not all([is_slot(widths, kids, item) for item in slots]):
        return "item"
    # Unlike slots, as many as there can be: so each stands, and stands once.
    if len(set(slots)) != len(slots) or len(slots) != sum([widths[kid] for kid in kids]):
        return "once"
    return ""


def is_slot(widths, kids, thing):
    """Whether thing is a slot for one of the kids."""
    if not (isinstance(thing, tuple) and len(thing) == 2 and is_below(thing[0], len(kids))):
        return False
    return is_below(thing[1], widths[kids[thing[0]]])
