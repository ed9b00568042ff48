"""Forms of what two tongues both say."""

from everytongue.checkers import is_book
from everytongue.kinds import is_each, is_integer, is_number, is_tuple
from everytongue.lifting import lift
from everytongue.making import any_form
from everytongue.piecechecker import is_pieces
from everytongue.refusing import require
from everytongue.speaking import words_in
from everytongue.tonguechecker import is_tongue


def common_form(book, one, other):
    """A form of the start trees that both say, with what one says, and what other says."""
    require(is_book(book), "book")
    require(is_tongue(book, one), "one")
    require(is_tongue(book, other), "other")
    return both_form(book, one, other)


def pair_digits(said, other_said):
    """The ascending tuple of the words in two tongues in pieces."""
    require(is_some_pieces(said), "said")
    require(is_some_pieces(other_said), "other_said")
    return pair_words(said, other_said)


def both_form(book, one, other):
    """What common_form returns."""
    made, erase, said = form = any_form(book, one)
    second = any_form(made, lift(book, form, other))
    further = second[1]
    return (second[0], tuple([erase[con] for con in further]), lift(made, second, said), second[2])


def pair_words(said, other_said):
    """The ascending tuple of the words in what are known to be tongues in pieces."""
    return tuple(sorted(set(words_in(said[2]) + words_in(other_said[2]))))


def is_some_pieces(thing):
    """Whether thing is a tongue in pieces of some book."""
    if not (isinstance(thing, tuple) and len(thing) == 3):
        return False
    if not (is_each(thing[1], is_width) and is_each(thing[2], is_row)):
        return False
    # If there is such a book, these sorts will do; no sort has to be a start sort.
    cons = []
    for row in thing[2]:
        many = kid_widths(row)
        widths = [len(row)] + [many.get(kid, 0) for kid in range(len(many))]
        if not all([width in thing[1] for width in widths]):
            return False
        sorts = [thing[1].index(width) for width in widths]
        cons.append((sorts[0], tuple(sorts[1:])))
    book = (len(thing[1]), (), tuple(cons))
    return is_book(book) and is_pieces(book, thing)


def is_width(thing):
    """Whether thing can be the width of a sort."""
    return is_integer(thing) and thing >= 1


def is_row(thing):
    """Whether thing is a tuple of tuples."""
    return is_each(thing, is_tuple)


def kid_widths(row):
    """How many slots each kid has in the row."""
    many = {}
    for piece in row:
        for item in piece:
            if is_each(item, is_number) and len(item) == 2:
                many[item[0]] = many.get(item[0], 0) + 1
    return many
