"""What trees say in pieces."""

from everytongue.checkers import is_any_tree, is_book, is_con
from everytongue.piecechecker import is_pieces
from everytongue.refusing import require
from everytongue.trees import kid_places


def texts_said(book, pieces, tree):
    """The row of texts that the tree says."""
    require(is_book(book), "book")
    require(is_pieces(book, pieces), "pieces")
    require(is_any_tree(book, tree), "tree")
    return tree_texts(book, pieces, tree)


def own_words(book, pieces, con):
    """How many words stand in the row of con."""
    require(is_book(book), "book")
    require(is_pieces(book, pieces), "pieces")
    require(is_con(book, con), "con")
    return row_words(pieces[2][con])


def words_said(book, pieces, tree):
    """How many words all texts together have that the tree says."""
    require(is_book(book), "book")
    require(is_pieces(book, pieces), "pieces")
    require(is_any_tree(book, tree), "tree")
    counts = [row_words(row) for row in pieces[2]]
    return sum([counts[con] for con in tree])


def tree_texts(book, pieces, tree):
    """The row of texts that a tree says that is known to be one."""
    rows = [pieces[2][con] for con in tree]
    places = kid_places(book, tree)
    return tuple([piece_text(rows, places, piece) for piece in rows[0]])


def row_words(row):
    """How many words stand in a row."""
    return len([item for piece in row for item in piece if isinstance(item, str)])


def filled_row(row, kids):
    """The row of texts that a constructor with this row makes of those of its kids."""
    return tuple([filled_piece(piece, kids) for piece in row])


def filled_piece(piece, kids):
    """The text of a piece; kids has the row of texts of each kid."""
    text = []
    for item in piece:
        if isinstance(item, str):
            text.append(item)
        else:
            text.extend(kids[item[0]][item[1]])
    return tuple(text)


def piece_text(rows, places, piece):
    """The text of a piece of the root; rows and places tell the row and the kids of each node."""
    text = []
    todo = [(0, item) for item in piece[::-1]]
    while todo:
        node, item = todo.pop()
        if isinstance(item, str):
            text.append(item)
        else:
            kid = places[node][item[0]]
            todo.extend([(kid, inner) for inner in rows[kid][item[1]][::-1]])
    return tuple(text)
