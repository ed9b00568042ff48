"""The checker of tongues of any way."""

from everytongue.checkers import is_book
from everytongue.piecechecker import pieces_fault
from everytongue.refusing import accept, require
from everytongue.termchecker import functions_fault
from everytongue.walkerchecker import walker_fault
from everytongue.webchecker import webs_fault


def lets_tongue(book, thing):
    """Return the way in which the tongue is told."""
    require(is_book(book), "book")
    accept(tongue_fault(book, thing))
    return thing[0]


def is_tongue(book, thing):
    """Whether thing is a tongue of the book, of any way."""
    return tongue_fault(book, thing) is None


def tongue_fault(book, thing):
    """The first entry of lets_tongue's list that applies to thing, or None."""
    way = thing[0] if isinstance(thing, tuple) and len(thing) > 0 else ""
    if way == "pieces":
        return pieces_fault(book, thing)
    if way == "functions":
        return functions_fault(book, thing)
    if way == "walker":
        return walker_fault(book, thing)
    if way == "webs":
        return webs_fault(book, thing)
    return ("way", -1)
