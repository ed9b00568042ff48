"""The readings of a text: the start trees of which a tongue says it."""

from everytongue.checkers import is_book
from everytongue.kinds import is_number, is_text
from everytongue.machines import text_machine
from everytongue.making import any_form
from everytongue.meets import met_form
from everytongue.refusing import bound_count, require
from everytongue.tonguechecker import is_tongue
from everytongue.treecounts import start_count
from everytongue.treelists import first_trees


def readings(book, tongue, words):
    """A form whose start trees erase one to one to the readings of words."""
    require(is_book(book), "book")
    require(is_tongue(book, tongue), "tongue")
    require(is_text(words), "words")
    return read_form(any_form(book, tongue), words)


def count_readings(book, tongue, words):
    """How many readings there are, None if endlessly many."""
    require(is_book(book), "book")
    require(is_tongue(book, tongue), "tongue")
    require(is_text(words), "words")
    return readings_count(any_form(book, tongue), words)


def first_readings(book, tongue, words, most):
    """The least readings, ascending by size: as many as most tells, or all."""
    require(is_book(book), "book")
    require(is_tongue(book, tongue), "tongue")
    require(is_text(words), "words")
    require(is_number(most), "most")
    return least_readings(any_form(book, tongue), words, most)


def read_form(form, words):
    """The form of the readings of words in the tongue of this form."""
    return met_form(form, text_machine(words))


def readings_count(form, words):
    """How many readings of words there are in the tongue of this form, None if endlessly many."""
    many = start_count(read_form(form, words)[0])
    if many is not None:
        bound_count(many)
    return many


def least_readings(form, words, most):
    """So many of the least readings of words in the tongue of this form, or all."""
    made, erase, _ = read_form(form, words)
    return tuple([tuple([erase[con] for con in tree]) for tree in first_trees(made, most)])
