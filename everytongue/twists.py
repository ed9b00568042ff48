"""Twists of texts and of tongues in pieces."""

from everytongue.checkers import is_book
from everytongue.kinds import is_ascending, is_each, is_text, is_word
from everytongue.piecechecker import is_pieces
from everytongue.refusing import require


def is_twist(thing):
    """Whether thing is a twist."""
    if not (isinstance(thing, tuple) and len(thing) in (1, 2)):
        return False
    if len(thing) == 1:
        return thing[0] == "same" or thing[0] == "mirror"
    return thing[0] == "recode" and is_table(thing[1])


def twisted_text(words, twist):
    """The text twisted."""
    require(is_text(words), "words")
    require(is_twist(twist), "twist")
    return turned(words, twist)


def twisted(book, pieces, twist):
    """The tongue in which each piece is turned."""
    require(is_book(book), "book")
    require(is_pieces(book, pieces), "pieces")
    require(is_twist(twist), "twist")
    return turned_pieces(pieces, twist)


def turned_pieces(pieces, twist):
    """What twisted returns, for what is known to be a tongue in pieces."""
    rows = tuple([tuple([turned(piece, twist) for piece in row]) for row in pieces[2]])
    return ("pieces", pieces[1], rows)


def is_table(thing):
    """Whether thing is a table of words and texts."""
    return is_each(thing, is_table_row) and is_ascending([word for word, _ in thing])


def is_table_row(thing):
    """Whether thing is a pair of a word and a text."""
    return isinstance(thing, tuple) and len(thing) == 2 and is_word(thing[0]) and is_text(thing[1])


def turned(items, twist):
    """Words, perhaps with slots between them, by the twist."""
    if twist[0] == "same":
        return items
    if twist[0] == "mirror":
        return items[::-1]
    table = {}
    for word, text in twist[1]:
        table[word] = text
    return tuple([turn for item in items for turn in table.get(item, (item,))])
