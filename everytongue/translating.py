"""Translations of a text: what another tongue says of its readings."""

from everytongue.checkers import is_book
from everytongue.erasing import form_of_form
from everytongue.kinds import is_number, is_text
from everytongue.lifting import lift
from everytongue.making import any_form
from everytongue.readings import read_form
from everytongue.refusing import require
from everytongue.textrows import form_sentences
from everytongue.tonguechecker import is_tongue


def translations(book, one, words, other):
    """A form of those readings of words in one that other says, with what other says."""
    require(is_book(book), "book")
    require(is_tongue(book, one), "one")
    require(is_text(words), "words")
    require(is_tongue(book, other), "other")
    return translated_form(book, any_form(book, one), words, other)


def translated(book, one, words, other, most):
    """The ascending tuple of all translations of words from one into other."""
    require(is_book(book), "book")
    require(is_tongue(book, one), "one")
    require(is_text(words), "words")
    require(is_tongue(book, other), "other")
    require(is_number(most), "most")
    return form_sentences(translated_form(book, any_form(book, one), words, other), most)


def translated_form(book, form, words, other):
    """What translations returns, for the form of one."""
    read = read_form(form, words)
    return form_of_form(read, any_form(read[0], lift(book, read, other)))
