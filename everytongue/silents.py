"""Silent pieces, and tongues without them."""

from everytongue.checkers import is_book
from everytongue.piecechecker import is_pieces
from everytongue.refusing import require
from everytongue.trimming import is_trimmed, live_cons


def silent_pieces(book, pieces):
    """For each sort the ascending tuple of the pieces at which all its trees say ()."""
    require(is_book(book), "book")
    require(is_pieces(book, pieces), "pieces")
    loud = loud_pieces(book, pieces)
    silent = []
    for sort, width in enumerate(pieces[1]):
        silent.append(tuple([piece for piece in range(width) if (sort, piece) not in loud]))
    return tuple(silent)


def struck(book, pieces):
    """The tongue of a trimmed book with silent pieces struck."""
    require(is_book(book) and is_trimmed(book), "book")
    require(is_pieces(book, pieces), "pieces")
    return strike(book, pieces)


def loud_pieces(book, pieces):
    """The pairs of a sort and a piece at which some tree says a word, as keys."""
    heard = []
    around = {}
    for con in live_cons(book):
        result, kids = book[2][con]
        for piece, row in enumerate(pieces[2][con]):
            for item in row:
                if isinstance(item, str):
                    heard.append((result, piece))
                else:
                    around.setdefault((kids[item[0]], item[1]), []).append((result, piece))
    loud = {}
    while heard:
        key = heard.pop()
        if key not in loud:
            loud[key] = True
            heard.extend(around.get(key, []))
    return loud


def strike(book, pieces):
    """The tongue with silent pieces struck; the book is known to be trimmed."""
    loud = loud_pieces(book, pieces)
    kept = []
    numbers = {}
    for sort, width in enumerate(pieces[1]):
        kept.append([piece for piece in range(width) if (sort, piece) in loud])
        for piece in kept[sort]:
            numbers[(sort, piece)] = len([other for other in kept[sort] if other < piece])
    rows = []
    for (result, kids), row in zip(book[2], pieces[2]):
        left = [struck_piece(kids, numbers, row[piece]) for piece in kept[result]]
        if not left:
            left = [()]
        left[0] += tuple([(k, 0) for k, kid in enumerate(kids) if not kept[kid]])
        rows.append(tuple(left))
    return ("pieces", tuple([max(1, len(row)) for row in kept]), tuple(rows))


def struck_piece(kids, numbers, piece):
    """The piece without slots of silent pieces, the other ones with their new numbers."""
    left = []
    for item in piece:
        if isinstance(item, str):
            left.append(item)
        elif (kids[item[0]], item[1]) in numbers:
            left.append((item[0], numbers[(kids[item[0]], item[1])]))
    return tuple(left)
