"""Tongues in pieces, told by functions."""

from everytongue.checkers import is_book
from everytongue.ftypes import LINE, leading_type
from everytongue.piecechecker import is_pieces
from everytongue.refusing import require
from everytongue.tokens import APP


def functions_of(book, pieces):
    """A tongue of functions that says the same of every start tree."""
    require(is_book(book), "book")
    require(is_pieces(book, pieces), "pieces")
    types = tuple([width_type(width) for width in pieces[1]])
    terms = [row_term(kids, pieces[1], row) for (_, kids), row in zip(book[2], pieces[2])]
    return ("functions", types, tuple(terms))


def user_type(width):
    """The type of what is used on a line for each piece."""
    return leading_type((LINE,) * width, LINE)


def width_type(width):
    """The type of a sort of this width."""
    if width == 1:
        return LINE
    return leading_type((user_type(width),), LINE)


def row_term(kids, widths, row):
    """The term of a constructor with these kids and this row.

    It takes the kids, and, if it has several pieces, what is to be used on them.
    Each kid of several pieces is used on a function that takes these, with all
    that is to come as its body. Lambdas are told by how many are around them.
    """
    tokens = [("lam", width_type(widths[kid])) for kid in kids]
    slots = {(k, 0): k for k in range(len(kids))}
    depth = len(kids)
    if len(row) > 1:
        tokens.append(("lam", user_type(len(row))))
        depth += 1
    for k, kid in enumerate(kids):
        if widths[kid] > 1:
            tokens.extend([APP, ("var", depth - 1 - k)])
            for piece in range(widths[kid]):
                tokens.append(("lam", LINE))
                slots[(k, piece)] = depth
                depth += 1
    if len(row) > 1:
        tokens.extend([APP] * len(row) + [("var", depth - 1 - len(kids))])
    for piece in row:
        tokens.extend(piece_term(slots, depth, piece))
    return tuple(tokens)


def piece_term(slots, depth, piece):
    """The line that puts a piece ahead of what follows; slots tells the lambdas of its slots."""
    tokens = [("lam", (0,))]
    for item in piece:
        if isinstance(item, str):
            tokens.extend([APP, ("word", item)])
        else:
            tokens.extend([APP, ("var", depth - slots[item])])
    return tokens + [("var", 0)]
