"""Translations there and back."""

from everytongue.checkers import is_book
from everytongue.errors import TooMuch
from everytongue.kinds import is_number, is_text
from everytongue.making import any_form
from everytongue.refusing import require
from everytongue.textrows import form_sentences
from everytongue.tonguechecker import is_tongue
from everytongue.translating import translated_form


def back_and_forth(book, one, words, other, most):
    """The ascending tuple of all translations, from other into one, of translations of words from one into other."""
    require(is_book(book), "book")
    require(is_tongue(book, one), "one")
    require(is_text(words), "words")
    require(is_tongue(book, other), "other")
    require(is_number(most), "most")
    found = {}
    form = any_form(book, other)
    for text in form_sentences(translated_form(book, any_form(book, one), words, other), most):
        for back in form_sentences(translated_form(book, form, text, one), most):
            found[back] = True
        if len(found) > most:
            raise TooMuch("sentences")
    return tuple(sorted(found))
