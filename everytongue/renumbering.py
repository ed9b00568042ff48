"""Books and trees with other numbers of sorts and constructors."""

from everytongue.checkers import is_any_tree, is_book
from everytongue.kinds import is_order
from everytongue.refusing import require


def renumbered(book, sort_order, con_order):
    """The book in which sorts and constructors have the numbers that the orders tell."""
    require(is_book(book), "book")
    require(is_order(sort_order, book[0]), "sort_order")
    require(is_order(con_order, len(book[2])), "con_order")
    cons = [()] * len(book[2])
    for con, (result, kids) in enumerate(book[2]):
        cons[con_order[con]] = (sort_order[result], tuple([sort_order[kid] for kid in kids]))
    return (book[0], tuple(sorted([sort_order[start] for start in book[1]])), tuple(cons))


def renumbered_tree(book, tree, con_order):
    """The tree in a book whose constructors are renumbered so."""
    require(is_book(book), "book")
    require(is_any_tree(book, tree), "tree")
    require(is_order(con_order, len(book[2])), "con_order")
    return tuple([con_order[con] for con in tree])
