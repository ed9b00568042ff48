"""Pieces in another sequence, and forms that erase nothing."""

from everytongue.checkers import is_book, is_sort
from everytongue.erasing import whole_form
from everytongue.kinds import is_order
from everytongue.piecechecker import is_pieces
from everytongue.refusing import require


def reordered(book, pieces, sort, order):
    """The tongue in which piece j of the sort has the number order[j]."""
    require(is_book(book), "book")
    require(is_pieces(book, pieces), "pieces")
    require(is_sort(book, sort), "sort")
    require(is_order(order, pieces[1][sort]), "order")
    rows = []
    for (result, kids), row in zip(book[2], pieces[2]):
        moved = [reordered_piece(kids, piece, sort, order) for piece in row]
        if result == sort:
            # The piece that comes to the place k is the one whose number is k.
            moved = [moved[order.index(k)] for k in range(len(order))]
        rows.append(tuple(moved))
    return ("pieces", pieces[1], tuple(rows))


def identity_form(book, pieces):
    """The form that erases nothing."""
    require(is_book(book), "book")
    require(is_pieces(book, pieces), "pieces")
    return whole_form(book, pieces)


def reordered_piece(kids, piece, sort, order):
    """The piece with the new numbers in the slots of kids of the sort."""
    moved = []
    for item in piece:
        if isinstance(item, tuple) and kids[item[0]] == sort:
            moved.append((item[0], order[item[1]]))
        else:
            moved.append(item)
    return tuple(moved)
