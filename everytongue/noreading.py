"""Papers that there is no reading of a text."""

from everytongue.checkers import is_book
from everytongue.items import all_items, is_item, items_from
from everytongue.kinds import is_ascending, is_text
from everytongue.machines import machine_moves, text_machine
from everytongue.making import any_form
from everytongue.refusing import accept, require
from everytongue.tonguechecker import is_tongue


def no_reading(book, tongue, words):
    """None if there is a reading of words, otherwise all items of the tongue's form by their machine."""
    require(is_book(book), "book")
    require(is_tongue(book, tongue), "tongue")
    require(is_text(words), "words")
    return unread_paper(any_form(book, tongue), words)


def lets_no_reading(book, tongue, words, thing):
    """Return how many items the paper lists."""
    require(is_book(book), "book")
    require(is_tongue(book, tongue), "tongue")
    require(is_text(words), "words")
    accept(unread_fault(any_form(book, tongue), words, thing))
    return sum([len(items) for items in thing])


def unread_paper(form, words):
    """What no_reading returns, for the form of the tongue."""
    items = all_items(form, text_machine(words))
    if any([((0, len(words)),) in items[start] for start in form[0][1]]):
        return None
    return tuple([tuple(row) for row in items])


def unread_fault(form, words, thing):
    """The first entry of lets_no_reading's list that applies to thing, for the form of the tongue, or None."""
    made, _, said = form
    states = len(words) + 1
    if not (isinstance(thing, tuple) and len(thing) == made[0]):
        return ("shape", -1)
    for sort, items in enumerate(thing):
        if not are_items(states, said[1][sort], items):
            return ("items", sort)
    moves = machine_moves(text_machine(words))
    listed = [{item: True for item in items} for items in thing]
    for con, (result, kids) in enumerate(made[2]):
        lists = [thing[kid] for kid in kids]
        for item in items_from(moves, states, said[1], made[2][con], said[2][con], lists):
            if item not in listed[result]:
                return ("open", con)
    for start in made[1]:
        if ((0, len(words)),) in listed[start]:
            return ("start", start)
    return None


def are_items(states, width, thing):
    """Whether thing is an ascending tuple of tuples of so many pairs of numbers below states."""
    if not isinstance(thing, tuple):
        return False
    return all([is_item(states, width, item) for item in thing]) and is_ascending(thing)
