"""The checker of forms."""

from everytongue.checkers import is_book, is_con
from everytongue.kinds import is_each, is_number
from everytongue.piecechecker import is_pieces
from everytongue.refusing import accept, require


def is_form(thing):
    """Whether thing is a form over some book."""
    if parts_fault(thing) is not None:
        return False
    # One sort is enough, with constructors of just the kids that are asked for.
    many = {}
    for con, (_, kids) in zip(thing[1], thing[0][2]):
        if many.setdefault(con, len(kids)) != len(kids):
            return False
    return True


def lets_form(book, thing):
    """Return how many constructors the form's own book has."""
    require(is_book(book), "book")
    accept(form_fault(book, thing))
    return len(thing[1])


def is_form_over(book, thing):
    """Whether thing is a form over the book."""
    return form_fault(book, thing) is None


def parts_fault(thing):
    """The first entry of lets_form's list that applies to a part alone, or None."""
    if not (isinstance(thing, tuple) and len(thing) == 3):
        return ("shape", -1)
    made, erase, said = thing
    if not is_book(made):
        return ("made", -1)
    if not is_pieces(made, said):
        return ("said", -1)
    if not (is_each(erase, is_number) and len(erase) == len(made[2])):
        return ("erase", -1)
    return None


def form_fault(book, thing):
    """The first entry of lets_form's list that applies to thing, or None."""
    fault = parts_fault(thing)
    if fault is not None:
        return fault
    made, erase, _ = thing
    matched = {}
    for k, con in enumerate(made[2]):
        if not is_con(book, erase[k]) or len(book[2][erase[k]][1]) != len(con[1]):
            return ("con", k)
        if not match_con(matched, con, book[2][erase[k]]):
            return ("sorts", k)
    for start in made[1]:
        if start in matched and matched[start] not in book[1]:
            return ("start", start)
    return None


def match_con(matched, con, own):
    """Match the sorts of con with those of the book's own constructor.

    Whether none of them had another match already.
    """
    fits = True
    for sort, match in zip((con[0],) + con[1], (own[0],) + own[1]):
        if matched.setdefault(sort, match) != match:
            fits = False
    return fits
