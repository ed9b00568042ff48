"""What forms erase to, and forms made of tongues and forms."""

from everytongue.checkers import is_book, is_con
from everytongue.formchecker import is_form, is_form_over, match_con
from everytongue.kinds import is_each, is_number
from everytongue.piecechecker import is_pieces
from everytongue.refusing import require
from everytongue.trimming import is_trimmed, places_of, trim_book, used_flags, used_places


def erased(form, tree):
    """What the form writes for each constructor of the tuple tree."""
    require(is_form(form), "form")
    known = is_each(tree, is_number) and all([is_con(form[0], con) for con in tree])
    require(known, "tree")
    return tuple([form[1][con] for con in tree])


def sorts_matched(book, form):
    """The sort that each sort of the form is matched with, or -1."""
    require(is_book(book), "book")
    require(is_form_over(book, form), "form")
    return matched_sorts(book, form)


def trimmed_form(form):
    """The form with its own book trimmed."""
    require(is_form(form), "form")
    return trim_form(form)


def made_pieces(book, pieces):
    """The form of the tongue in pieces."""
    require(is_book(book), "book")
    require(is_pieces(book, pieces), "pieces")
    return trim_form(whole_form(book, pieces))


def form_through(form, further):
    """The form that erases as further does, then as form does."""
    require(is_form(form), "form")
    require(is_form_over(form[0], further), "further")
    return form_of_form(form, further)


def is_trim_form(thing):
    """Whether thing is a form whose own book is trimmed."""
    return is_form(thing) and is_trimmed(thing[0])


def form_of_form(form, further):
    """The form that erases as further, a form over the form's own book, does, then as form does."""
    return (further[0], tuple([form[1][con] for con in further[1]]), further[2])


def matched_sorts(book, form):
    """The sort that each sort of what is known to be a form is matched with, or -1."""
    matched = {}
    for con, own in zip(form[0][2], form[1]):
        match_con(matched, con, book[2][own])
    return tuple([matched.get(sort, -1) for sort in range(form[0][0])])


def whole_form(book, pieces):
    """The form that erases nothing."""
    return (book, tuple(range(len(book[2]))), pieces)


def trim_form(form):
    """A form, known to be one, with its own book trimmed."""
    made, erase, said = form
    cons = used_places(made)
    widths = tuple([said[1][sort] for sort in places_of(used_flags(made))])
    rows = tuple([said[2][con] for con in cons])
    return (trim_book(made), tuple([erase[con] for con in cons]), ("pieces", widths, rows))
