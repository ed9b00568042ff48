"""Checkers of books and trees, and what sorts, constructors and trees are."""

from everytongue.kinds import is_ascending, is_below, is_each, is_number
from everytongue.refusing import accept, require


def lets_book(thing):
    """Return how many constructors the book has."""
    accept(book_fault(thing))
    return len(thing[2])


def lets_tree(book, thing):
    """Return the sort of the tree."""
    require(is_book(book), "book")
    accept(tree_fault(book, thing))
    return tree_sort(book, thing)


def book_fault(thing):
    """The first entry of lets_book's list that applies to thing, or None."""
    if not (isinstance(thing, tuple) and len(thing) == 3):
        return ("shape", -1)
    size, starts, cons = thing
    if not is_number(size):
        return ("size", -1)
    if not are_sorts(size, starts) or not is_ascending(starts):
        return ("starts", -1)
    if not isinstance(cons, tuple):
        return ("cons", -1)
    for k, con in enumerate(cons):
        if not is_con_pair(size, con):
            return ("con", k)
        if not are_sorts(size, con[1]) or len(con[1]) > 4:
            return ("kids", k)
    return None


def are_sorts(size, thing):
    """Whether thing is a tuple of sorts of a book of this size."""
    return is_each(thing, is_number) and all([sort < size for sort in thing])


def is_con_pair(size, thing):
    """Whether thing is a pair of a sort and a tuple."""
    if not (isinstance(thing, tuple) and len(thing) == 2):
        return False
    return is_below(thing[0], size) and isinstance(thing[1], tuple)


def tree_fault(book, thing):
    """The first entry of lets_tree's list that applies to thing, or None."""
    if not isinstance(thing, tuple):
        return ("shape", -1)
    cons = book[2]
    # -1 stands for whatever sort the root may have.
    due = [-1]
    for k, node in enumerate(thing):
        if not due:
            return ("more", k)
        sort = due.pop()
        if not is_con(book, node) or sort not in (-1, cons[node][0]):
            return ("node", k)
        due.extend(cons[node][1][::-1])
    if due:
        return ("end", len(thing))
    return None


def is_book(thing):
    """Whether thing is a book."""
    return book_fault(thing) is None


def is_sort(book, thing):
    """Whether thing is a sort of the book."""
    return is_below(thing, book[0])


def is_con(book, thing):
    """Whether thing is a constructor of the book."""
    return is_below(thing, len(book[2]))


def is_any_tree(book, thing):
    """Whether thing is a tree of any sort of the book."""
    return tree_fault(book, thing) is None


def is_start_tree(book, thing):
    """Whether thing is a start tree of the book."""
    return is_any_tree(book, thing) and tree_sort(book, thing) in book[1]


def tree_sort(book, tree):
    """The sort of a tree that is known to be one."""
    return book[2][tree[0]][0]
