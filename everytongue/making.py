"""Forms of tongues of any way, and one tongue told in each way."""

from everytongue.checkers import is_book
from everytongue.erasing import made_pieces
from everytongue.formchecker import is_form
from everytongue.givenfunctions import functions_of
from everytongue.givenwalkers import walker_of
from everytongue.givenwebs import webs_of
from everytongue.madefunctions import made_functions
from everytongue.madewalkers import made_walker
from everytongue.madewebs import made_webs
from everytongue.refusing import require
from everytongue.tonguechecker import is_tongue

WAYS = ("pieces", "functions", "walker", "webs")


def form_of(book, tongue):
    """The form of the tongue."""
    require(is_book(book), "book")
    require(is_tongue(book, tongue), "tongue")
    return any_form(book, tongue)


def widest(form):
    """The greatest width of what the form says, 1 without sorts."""
    require(is_form(form), "form")
    return greatest_width(form)


def led(book, tongue, way):
    """The tongue told in this way: a book, what its trees erase to, and a tongue of it."""
    require(is_book(book), "book")
    require(is_tongue(book, tongue), "tongue")
    require(is_way(way), "way")
    made, erase, said = any_form(book, tongue)
    if way == "pieces":
        return (made, erase, said)
    if way == "functions":
        return (made, erase, functions_of(made, said))
    if way == "walker":
        return (made, erase, walker_of(made, said))
    return (made, erase, webs_of(made, said))


def one_width(book, tongue):
    """The width of the tongue's form, the states of a walker and the rank of webs that tell it."""
    require(is_book(book), "book")
    require(is_tongue(book, tongue), "tongue")
    width = greatest_width(any_form(book, tongue))
    return (width, width, 2 * width)


def is_way(thing):
    """Whether thing is the name of a way to tell tongues."""
    return isinstance(thing, str) and thing in WAYS


def any_form(book, tongue):
    """The form of what is known to be a tongue."""
    if tongue[0] == "pieces":
        return made_pieces(book, tongue)
    if tongue[0] == "functions":
        return made_functions(book, tongue)
    if tongue[0] == "walker":
        return made_walker(book, tongue)
    return made_webs(book, tongue)


def greatest_width(form):
    """The greatest width of what is known to be a form."""
    return max(form[2][1], default=1)
