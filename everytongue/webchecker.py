"""The checker of webs."""

from everytongue.checkers import is_book
from everytongue.graphs import are_edges
from everytongue.kinds import is_each, is_integer, is_number
from everytongue.refusing import accept, require


def lets_webs(book, thing):
    """Return the greatest rank, 0 without sorts."""
    require(is_book(book), "book")
    accept(webs_fault(book, thing))
    return max(thing[1], default=0)


def is_webs(book, thing):
    """Whether thing is a tongue of the book told by webs."""
    return webs_fault(book, thing) is None


def webs_fault(book, thing):
    """The first entry of lets_webs's list that applies to thing, or None."""
    if not (isinstance(thing, tuple) and len(thing) == 3 and thing[0] == "webs"):
        return ("shape", -1)
    _, ranks, rows = thing
    if not are_ranks(book, ranks):
        return ("ranks", -1)
    if not (isinstance(rows, tuple) and len(rows) == len(book[2])):
        return ("rows", -1)
    for con, row in enumerate(rows):
        word = web_fault(ranks, book[2][con], row)
        if word != "":
            return (word, con)
    return None


def are_ranks(book, thing):
    """Whether thing has a rank for each sort, 2 for start sorts."""
    if not (is_each(thing, is_integer) and len(thing) == book[0]):
        return False
    return all([rank >= 1 for rank in thing]) and all([thing[start] == 2 for start in book[1]])


def web_fault(ranks, con, row):
    """The first word that applies to the row of a constructor, or the empty string."""
    result, kids = con
    if not (isinstance(row, tuple) and len(row) == 4):
        return "row"
    size, doors, edges, args = row
    if not (is_integer(size) and size >= 1):
        return "size"
    if not are_nodes(size, ranks[result], doors):
        return "doors"
    if not are_edges(size, edges):
        return "edges"
    if not (isinstance(args, tuple) and len(args) == len(kids)):
        return "args"
    fit = all([are_nodes(size, ranks[kid], nodes) for kid, nodes in zip(kids, args)])
    return "" if fit else "args"


def are_nodes(size, many, thing):
    """Whether thing is a tuple of so many unlike numbers below size."""
    if not (is_each(thing, is_number) and len(thing) == many):
        return False
    return all([node < size for node in thing]) and len(set(thing)) == many
