"""What walks of start trees meet: trees entered in states, and rules."""

from everytongue.behaviours import behaviours_and_ways, followed
from everytongue.checkers import is_book
from everytongue.closing import grown_book, ways_by_state
from everytongue.kinds import is_below
from everytongue.leasttrees import first_roots, grown_tree
from everytongue.refusing import bound_nodes, require
from everytongue.walkerchecker import is_walker
from everytongue.walking import rule_table


def reached(book, walker):
    """For each sort the pairs of a behaviour of its trees and a state in which walks enter such trees."""
    require(is_book(book), "book")
    require(is_walker(book, walker), "walker")
    pairs = [[] for _ in range(book[0])]
    for sort, behaviour, state in met_entries(book, walker)[0]:
        pairs[sort].append((behaviour, state))
    return tuple([tuple(sorted(row)) for row in pairs])


def met_rules(book, walker):
    """The ascending tuple of the places of the rules that some walk uses."""
    require(is_book(book), "book")
    require(is_walker(book, walker), "walker")
    return met_places(book, walker)


def rule_tree(book, walker, at):
    """A start tree whose walk uses the rule at the place at, or None."""
    require(is_book(book), "book")
    require(is_walker(book, walker), "walker")
    require(is_below(at, len(walker[2])), "at")
    marked, erase = marked_book(book, walker, walker[2][at][:3])
    found = first_roots(marked, erase)
    starts = [sort for sort in found if sort in marked[1]]
    if not starts:
        return None
    size, _ = found[starts[0]]
    bound_nodes(size)
    roots = {sort: con for sort, (_, con) in found.items()}
    return tuple([erase[con] for con in grown_tree(marked, roots, starts[0])])


def met_walker(book, walker):
    """The walker with the met rules alone."""
    require(is_book(book), "book")
    require(is_walker(book, walker), "walker")
    return ("walker", walker[1], tuple([walker[2][at] for at in met_places(book, walker)]))


def met_entries(book, walker):
    """The triples of a sort, a behaviour and a state in which walks enter such trees.

    For each of them how the visit goes on: triples of the constructor, its kids'
    behaviours and the rules used. Then for each sort and behaviour the pairs of a
    constructor and its kids' behaviours.
    """
    rules = rule_table(walker)
    behaviours, ways = behaviours_and_ways(book, walker)
    makers = ways_by_state(book, ways)
    entries = {}
    todo = [(start, behaviour, 0) for start in book[1] for behaviour in behaviours[start]]
    while todo:
        entry = todo.pop()
        if entry in entries:
            continue
        sort, behaviour, state = entry
        entries[entry] = []
        for con, kids in makers[(sort, behaviour)]:
            used = followed(rules, con, kids, state)[1]
            entries[entry].append((con, kids, used))
            for kid, further in kids_met(rules, used):
                todo.append((book[2][con][1][kid], kids[kid], further))
    return entries, makers


def kids_met(rules, used):
    """The pairs of a kid and the state in which it is entered by the rules used."""
    found = []
    for key in used:
        _, to, further = rules[key]
        if to > 0:
            found.append((to - 1, further))
    return found


def met_places(book, walker):
    """The ascending tuple of the places of the rules that some walk uses."""
    used = {}
    for rows in met_entries(book, walker)[0].values():
        for _, _, keys in rows:
            for key in keys:
                used[key] = True
    return tuple([at for at, rule in enumerate(walker[2]) if rule[:3] in used])


def marked_book(book, walker, rule):
    """A book of start trees in which a way is marked, from the root to a node where the walk uses the rule.

    The sorts at the marked nodes tell the state in which the walk enters them.
    Then what it erases to.
    """
    rules = rule_table(walker)
    entries, makers = met_entries(book, walker)
    starts = [entry for entry in entries if entry[0] in book[1] and entry[2] == 0]
    marked = {entry: marked_ways(book, rules, entries[entry], rule) for entry in entries}
    made, erase, _ = grown_book(starts, lambda key: marked[key] if key in marked else plain_ways(book, makers[key]))
    return made, erase


def plain_ways(book, makers):
    """The constructors of a sort and behaviour where nothing is marked."""
    return [(con, tuple(zip(book[2][con][1], kids)), ()) for con, kids in makers]


def marked_ways(book, rules, entry, rule):
    """The constructors of a sort, behaviour and state at which the way that is marked ends or goes on."""
    ways = []
    for con, kids, used in entry:
        plain = tuple(zip(book[2][con][1], kids))
        if rule in used:
            ways.append((con, plain, ()))
        for kid, state in kids_met(rules, used):
            ways.append((con, plain[:kid] + (plain[kid] + (state,),) + plain[kid + 1:], ()))
    return ways
