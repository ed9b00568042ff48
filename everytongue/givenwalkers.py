"""Tongues in pieces and tongues of functions, told by walkers."""

from everytongue.checkers import is_book
from everytongue.ftypes import door_numbers
from everytongue.piecechecker import is_pieces
from everytongue.plugging import wired_con
from everytongue.refusing import require
from everytongue.termchecker import is_functions


def walker_of(book, pieces):
    """A walker that says the same of every start tree, with a state for each piece."""
    require(is_book(book), "book")
    require(is_pieces(book, pieces), "pieces")
    rules = []
    for con, row in enumerate(pieces[2]):
        for j, piece in enumerate(row):
            rules.extend(piece_rules(con, j, piece))
    return ("walker", max(pieces[1], default=1), tuple(sorted(rules)))


def walker_of_functions(book, functions):
    """A walker that says the same of every start tree, with a rule for each link."""
    require(is_book(book), "book")
    require(is_functions(book, functions), "functions")
    states = 1
    for ftype in functions[1]:
        states = max(states, 1 + max(door_numbers(ftype)))
    rules = []
    for con in range(len(book[2])):
        rules.extend(link_rules(book, functions, con))
    return ("walker", states, tuple(sorted(rules)))


def piece_rules(con, j, piece):
    """The rules that say the piece j of con's row."""
    rules = []
    state, came = j, 0
    words = []
    for item in piece:
        if isinstance(item, str):
            words.append(item)
        else:
            kid, inner = item
            rules.append((state, con, came, tuple(words), kid + 1, inner))
            state, came = inner, kid + 1
            words = []
    rules.append((state, con, came, tuple(words), 0, j))
    return rules


def link_rules(book, functions, con):
    """The rules for the links of con's term."""
    result, kids = book[2][con]
    spots = []
    for k, kid in enumerate(kids):
        spots.extend([(number, k + 1) for number in door_numbers(functions[1][kid])])
    spots.extend([(number, 0) for number in door_numbers(functions[1][result])])
    rules = []
    for first, last, words in wired_con(book, functions, con)[0]:
        state, came = spots[first]
        further, to = spots[last]
        rules.append((state, con, came, words, to, further))
    return rules
