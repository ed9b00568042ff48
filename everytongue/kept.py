"""Texts that are kept and edited, with what can be told of their readings."""

from everytongue.beginnings import sure_words, words_next
from everytongue.checkers import is_book
from everytongue.errors import NothingToUndo
from everytongue.kinds import is_number, is_text
from everytongue.making import any_form
from everytongue.noreading import unread_paper
from everytongue.readings import least_readings, readings_count
from everytongue.refusing import require
from everytongue.tonguechecker import is_tongue


class Kept:
    """A book, a tongue and a text."""

    def __init__(self, book, tongue, words):
        require(is_book(book), "book")
        require(is_tongue(book, tongue), "tongue")
        require(is_text(words), "words")
        self._book = book
        self._tongue = tongue
        self._words = words
        self._before = []
        self._form = any_form(book, tongue)

    def edit(self, at, out, put):
        """Put a text in the place of so many words from the word at on."""
        words = self._words
        require(is_number(at) and at <= len(words), "at")
        require(is_number(out) and out <= len(words) - at, "out")
        require(is_text(put), "put")
        self._before.append(words)
        self._words = words[:at] + put + words[at + out:]

    def undo(self):
        """Take back the last edit that stands."""
        if not self._before:
            raise NothingToUndo(0)
        self._words = self._before.pop()

    def text(self):
        """The text."""
        return self._words

    def how_many(self):
        """How many readings there are, None if endlessly many."""
        return readings_count(self._form, self._words)

    def first(self, most):
        """The least readings, ascending by size: as many as most tells, or all."""
        require(is_number(most), "most")
        return least_readings(self._form, self._words, most)

    def next_words(self):
        """The ascending tuple of the words that may come next, and whether the text is a sentence."""
        return words_next(self._form, self._words)

    def sure(self):
        """How many words, from the first one on, begin a sentence; None if there are no sentences."""
        return sure_words(self._form, self._words)

    def paper(self):
        """None if there is a reading, otherwise a paper that there is none."""
        return unread_paper(self._form, self._words)

    def __eq__(self, other):
        """Whether other is a Kept with the same book, tongue and text."""
        if not isinstance(other, Kept):
            return False
        return self._book == other._book and self._tongue == other._tongue and self._words == other._words
