"""The texts that terms of line type are worth."""

from everytongue.checkers import is_book, is_start_tree
from everytongue.ftypes import LINE
from everytongue.refusing import require
from everytongue.steps import finished
from everytongue.termchecker import closed_type, is_functions
from everytongue.terms import whole_term


def term_text(term):
    """The text that the worth of a term of line type makes of ()."""
    require(closed_type(term) == LINE, "term")
    return worth_text(term)


def function_text(book, functions, start_tree):
    """The text that the tongue of functions says of the start tree."""
    require(is_book(book), "book")
    require(is_functions(book, functions), "functions")
    require(is_start_tree(book, start_tree), "start_tree")
    return worth_text(whole_term(book, functions, start_tree))


def worth_text(term):
    """The text of a term that is known to have line type."""
    # Without steps, words put themselves ahead of what is left, one after the other.
    return tuple([token[1] for token in finished(term)[0] if token[0] == "word"])
