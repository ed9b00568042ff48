"""Terms, put together."""

from everytongue.checkers import is_any_tree, is_book
from everytongue.errors import NotUsable
from everytongue.refusing import require
from everytongue.termchecker import closed_type, is_functions, leads_from
from everytongue.tokens import APP, term_fault


def is_term(thing):
    """Whether thing is one term."""
    return term_fault(thing) is None


def applied(term, *arguments):
    """The term used on the arguments, one after the other."""
    ftype = closed_type(term)
    require(ftype is not None, "term")
    for k, argument in enumerate(arguments):
        part = closed_type(argument)
        if part is None or not leads_from(ftype, part):
            raise NotUsable("arguments", k)
        ftype = ftype[1 + len(part):]
    tokens = tuple([token for argument in arguments for token in argument])
    return (APP,) * len(arguments) + term + tokens


def tree_term(book, functions, tree):
    """The term of the root's constructor, used on those of the kids."""
    require(is_book(book), "book")
    require(is_functions(book, functions), "functions")
    require(is_any_tree(book, tree), "tree")
    return whole_term(book, functions, tree)


def whole_term(book, functions, tree):
    """The term of a tree that is known to be one."""
    # Both trees and terms are told root first, so the parts stand in the tree's sequence.
    parts = [(APP,) * len(kids) + term for (_, kids), term in zip(book[2], functions[2])]
    return tuple([token for con in tree for token in parts[con]])
