"""Papers that there is no translation of a text."""

from everytongue.checkers import is_book
from everytongue.closing import choices, closed_states
from everytongue.kinds import is_ascending, is_text
from everytongue.lifting import lift
from everytongue.making import any_form
from everytongue.noreading import unread_fault, unread_paper
from everytongue.readings import read_form
from everytongue.refusing import accept, require
from everytongue.states import is_state, says_in, state_maker
from everytongue.tonguechecker import is_tongue


def no_translation(book, one, words, other):
    """None if there is a translation of words from one into other, otherwise a paper that there is none."""
    require(is_book(book), "book")
    require(is_tongue(book, one), "one")
    require(is_text(words), "words")
    require(is_tongue(book, other), "other")
    form = any_form(book, one)
    read = read_form(form, words)
    if read[0][0] == 0:
        return ("unread", unread_paper(form, words))
    tongue = lift(book, read, other)
    states = closed_states(read[0], state_maker(tongue))[0]
    if any([says_in(tongue, state) for start in read[0][1] for state in states[start]]):
        return None
    return ("unsaid", tuple([tuple(row) for row in states]))


def lets_no_translation(book, one, words, other, thing):
    """Return the first element of the paper."""
    require(is_book(book), "book")
    require(is_tongue(book, one), "one")
    require(is_text(words), "words")
    require(is_tongue(book, other), "other")
    accept(untold_fault(book, any_form(book, one), words, other, thing))
    return thing[0]


def untold_fault(book, form, words, other, thing):
    """The first entry of lets_no_translation's list that applies to thing, for the form of one, or None."""
    if not (isinstance(thing, tuple) and len(thing) == 2):
        return ("shape", -1)
    if thing[0] == "unread":
        return unread_fault(form, words, thing[1])
    if thing[0] != "unsaid":
        return ("shape", -1)
    read = read_form(form, words)
    return unsaid_fault(read[0], lift(book, read, other), thing[1])


def unsaid_fault(made, tongue, thing):
    """The first entry of the list that applies to what "unsaid" tells of a tongue of made, or None."""
    if not (isinstance(thing, tuple) and len(thing) == made[0]):
        return ("states", -1)
    for sort, states in enumerate(thing):
        if not are_listed_states(tongue, sort, states):
            return ("states", sort)
    make = state_maker(tongue)
    listed = [{state: True for state in states} for states in thing]
    for con, (result, kids) in enumerate(made[2]):
        for row in choices([thing[kid] for kid in kids]):
            if make(con, row) not in listed[result]:
                return ("open", con)
    for start in made[1]:
        if any([says_in(tongue, state) for state in thing[start]]):
            return ("start", start)
    return None


def are_listed_states(tongue, sort, thing):
    """Whether thing is an ascending tuple of what could be states of the sort."""
    if not isinstance(thing, tuple):
        return False
    return all([is_state(tongue, sort, state) for state in thing]) and is_ascending(thing)
