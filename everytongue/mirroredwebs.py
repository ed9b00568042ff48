"""Webs that say their words in the opposite sequence."""

from everytongue.checkers import is_book
from everytongue.refusing import require
from everytongue.webchecker import is_webs


def mirrored_webs(book, webs):
    """The webs with all edges, and the doors of start sorts, turned."""
    require(is_book(book), "book")
    require(is_webs(book, webs), "webs")
    rows = []
    for (result, kids), (size, doors, edges, args) in zip(book[2], webs[2]):
        turned = tuple([(last, first, words[::-1]) for first, last, words in edges])
        inner = tuple([turned_doors(book, kid, nodes) for kid, nodes in zip(kids, args)])
        rows.append((size, turned_doors(book, result, doors), turned, inner))
    return ("webs", webs[1], tuple(rows))


def turned_doors(book, sort, nodes):
    """The doors of the sort: of a start sort's two, the second one first."""
    return nodes[::-1] if sort in book[1] else nodes
