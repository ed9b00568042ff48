"""Forms of walkers."""

from everytongue.behaviours import behaviours_and_ways
from everytongue.checkers import is_book
from everytongue.closing import struck_form, ways_by_state
from everytongue.refusing import require
from everytongue.visits import told_visits
from everytongue.walkerchecker import is_walker
from everytongue.walking import rule_table


def made_walker(book, walker):
    """The form of the walker, with a sort for each sort, behaviour and states in which it is entered."""
    require(is_book(book), "book")
    require(is_walker(book, walker), "walker")
    rules = rule_table(walker)
    behaviours, ways = behaviours_and_ways(book, walker)
    makers = ways_by_state(book, ways)
    starts = [(start, told, (0,)) for start in book[1] for told in behaviours[start] if told[0] != -1]
    return struck_form(starts, lambda key: entered_ways(book, rules, makers[key[:2]], key[2]))


def entered_ways(book, rules, makers, entered):
    """The constructors of a sort and behaviour that is entered so, with their kids and rows."""
    found = []
    for con, kids in makers:
        visits, row = told_visits(rules, con, kids, entered)
        found.append((con, tuple(zip(book[2][con][1], kids, visits)), row))
    return found
