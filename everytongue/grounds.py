"""Whether two tongues part on what a third one says."""

from everytongue.alike import first_parted
from everytongue.checkers import is_book
from everytongue.lifting import lift
from everytongue.making import any_form
from everytongue.refusing import bound_nodes, require
from everytongue.tonguechecker import is_tongue
from everytongue.twists import is_twist


def alike_on(book, ground, one, other, twist):
    """The first start tree that ground says and at which one and other part, by the twist; None if there is none."""
    require(is_book(book), "book")
    require(is_tongue(book, ground), "ground")
    require(is_tongue(book, one), "one")
    require(is_tongue(book, other), "other")
    require(is_twist(twist), "twist")
    made, erase, _ = form = any_form(book, ground)
    size, tree, _ = first_parted(made, erase, lift(book, form, one), lift(book, form, other), twist)
    if size == 0:
        return None
    bound_nodes(size)
    return tuple([erase[con] for con in tree])
