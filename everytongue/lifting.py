"""Tongues of a book, told for the books of its forms."""

from everytongue.checkers import is_book
from everytongue.erasing import matched_sorts
from everytongue.formchecker import is_form_over
from everytongue.refusing import require
from everytongue.tonguechecker import is_tongue
from everytongue.trimming import is_trimmed


def lifted(book, form, tongue):
    """The tongue of the form's own book that says of each tree what the tongue says of the erased one."""
    require(is_book(book), "book")
    require(is_form_over(book, form) and is_trimmed(form[0]), "form")
    require(is_tongue(book, tongue), "tongue")
    return lift(book, form, tongue)


def lift(book, form, tongue):
    """The tongue of the book of what is known to be a form, its own book trimmed."""
    if tongue[0] == "walker":
        return ("walker", tongue[1], lifted_rules(form[1], tongue[2]))
    told = tuple([tongue[1][sort] for sort in matched_sorts(book, form)])
    return (tongue[0], told, tuple([tongue[2][con] for con in form[1]]))


def lifted_rules(erase, rules):
    """The rules of a walker, for each constructor that is erased to theirs."""
    lifts = {}
    for con, own in enumerate(erase):
        lifts.setdefault(own, []).append(con)
    found = []
    for rule in rules:
        found.extend([rule[:1] + (con,) + rule[2:] for con in lifts.get(rule[1], [])])
    return tuple(sorted(found))
