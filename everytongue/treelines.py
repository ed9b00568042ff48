"""Trees told in one line, and read from it."""

from everytongue.checkers import is_book, tree_fault
from everytongue.errors import InvalidText
from everytongue.kinds import is_each, is_number
from everytongue.refusing import bound_nodes, require

FIGURES = "0123456789"


def tree_line(tree):
    """The numbers of the tree in figures, parted by single spaces."""
    require(is_each(tree, is_number) and len(tree) > 0, "tree")
    return " ".join([str(node) for node in tree])


def read_tree(book, text):
    """The tree of the book that text tells."""
    require(is_book(book), "book")
    require(isinstance(text, str), "text")
    tree = tuple([field_number(field) for field in text.split(" ")])
    fault = tree_fault(book, tree)
    if fault is not None:
        raise InvalidText(0, fault[1])
    bound_nodes(len(tree))
    return tree


def field_number(field):
    """The number that a field tells, -1 if it tells none as tree_line does."""
    if not 1 <= len(field) <= 60 or not all([figure in FIGURES for figure in field]):
        return -1
    if field[0] == "0" and field != "0":
        return -1
    return int(field)
