"""The checker of walkers."""

from everytongue.checkers import is_book, is_con
from everytongue.kinds import is_below, is_integer, is_text
from everytongue.refusing import accept, require


def lets_walker(book, thing):
    """Return how many rules the walker has."""
    require(is_book(book), "book")
    accept(walker_fault(book, thing))
    return len(thing[2])


def is_walker(book, thing):
    """Whether thing is a walker of the book."""
    return walker_fault(book, thing) is None


def walker_fault(book, thing):
    """The first entry of lets_walker's list that applies to thing, or None."""
    if not (isinstance(thing, tuple) and len(thing) == 3 and thing[0] == "walker"):
        return ("shape", -1)
    _, states, rules = thing
    if not (is_integer(states) and states >= 1):
        return ("states", -1)
    if not isinstance(rules, tuple):
        return ("rules", -1)
    for k, rule in enumerate(rules):
        word = rule_fault(book, states, rule)
        if word != "":
            return (word, k)
        if k > 0 and rule[:3] <= rules[k - 1][:3]:
            return ("order", k)
    return None


def rule_fault(book, states, rule):
    """The first word that applies to a rule by itself, or the empty string."""
    if not (isinstance(rule, tuple) and len(rule) == 6):
        return "rule"
    state, con, came, words, to, further = rule
    if not (is_below(state, states) and is_below(further, states)):
        return "state"
    if not is_con(book, con):
        return "con"
    many = len(book[2][con][1]) + 1
    if not (is_below(came, many) and is_below(to, many)):
        return "came"
    return "" if is_text(words) else "words"
