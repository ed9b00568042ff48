"""Two tongues in pieces put together, and one of them again and again."""

from everytongue.checkers import is_book
from everytongue.piecechecker import is_pieces
from everytongue.refusing import require


def either(book, one, second, other):
    """The book and the tongue with the start trees of both."""
    require_two(book, one, second, other)
    cons = book[2] + raised_cons(second[2], book[0])
    made = (book[0] + second[0], book[1] + raised(second[1], book[0]), cons)
    return made, ("pieces", one[1] + other[1], one[2] + other[2])


def behind(book, one, second, other):
    """The book and the tongue that say a text of one, then one of the other."""
    require_two(book, one, second, other)
    new = book[0] + second[0]
    cons = [(new, (start, then)) for start in book[1] for then in raised(second[1], book[0])]
    made = (new + 1, (new,), book[2] + raised_cons(second[2], book[0]) + tuple(cons))
    rows = (pair_row(),) * len(cons)
    return made, ("pieces", one[1] + other[1] + (1,), one[2] + other[2] + rows)


def again(book, one):
    """The book and the tongue that say any texts of one, put together."""
    require(is_book(book), "book")
    require(is_pieces(book, one), "one")
    new = book[0]
    cons = [(new, ())] + [(new, (start, new)) for start in book[1]]
    rows = (((),),) + (pair_row(),) * len(book[1])
    return (new + 1, (new,), book[2] + tuple(cons)), ("pieces", one[1] + (1,), one[2] + rows)


def require_two(book, one, second, other):
    """Refuse what is not two books, each with a tongue in pieces."""
    require(is_book(book), "book")
    require(is_pieces(book, one), "one")
    require(is_book(second), "second")
    require(is_pieces(second, other), "other")


def pair_row():
    """The row that says the text of the first kid, then that of the second one."""
    return (((0, 0), (1, 0)),)


def raised(sorts, by):
    """The sorts with numbers raised."""
    return tuple([sort + by for sort in sorts])


def raised_cons(cons, by):
    """The constructors with the numbers of sorts raised."""
    return tuple([(result + by, raised(kids, by)) for result, kids in cons])
