"""What trees say of the words ahead of an edit and behind it."""

from everytongue.checkers import is_book
from everytongue.items import all_items
from everytongue.kinds import is_number, is_text
from everytongue.machines import word_rows
from everytongue.making import any_form
from everytongue.refusing import require
from everytongue.tonguechecker import is_tongue


def marked_items(book, tongue, words, at, out):
    """For each sort of the tongue's form the ascending tuple of its marked rows."""
    require(is_book(book), "book")
    require(is_tongue(book, tongue), "tongue")
    require(is_text(words), "words")
    require(is_number(at) and at <= len(words), "at")
    require(is_number(out) and out <= len(words) - at, "out")
    ahead, behind = words[:at], words[at + out:]
    # The states of the words behind come after those of the words ahead, and no word leads from these to them.
    rows = word_rows(ahead) + tuple([(at + 1 + k, word, at + 2 + k) for k, word in enumerate(behind)])
    last = at + 1 + len(behind)
    told = []
    for items in all_items(any_form(book, tongue), (last + 1, (), rows)):
        told.append(tuple(sorted([tuple([marked_span(span, at, last) for span in item]) for item in items])))
    return tuple(told)


def marked_span(span, at, last):
    """The span of states as 0 and places ahead of the edit, or 1 and places counted from the last state."""
    if span[0] <= at:
        return (0, span[0], span[1])
    return (1, last - span[0], last - span[1])
