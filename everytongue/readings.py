"""The readings of a text: the start trees of which a tongue says it."""

from heapq import heappop, heappush

from everytongue.checkers import is_book
from everytongue.kinds import is_number, is_text
from everytongue.leasttrees import least_sizes
from everytongue.machines import text_machine
from everytongue.making import any_form
from everytongue.meets import met_form
from everytongue.refusing import bound_count, bound_nodes, require
from everytongue.tonguechecker import is_tongue
from everytongue.treecounts import start_count


def readings(book, tongue, words):
    """A form whose start trees erase one to one to the readings of words."""
    require(is_book(book), "book")
    require(is_tongue(book, tongue), "tongue")
    require(is_text(words), "words")
    return read_form(any_form(book, tongue), words)


def count_readings(book, tongue, words):
    """How many readings there are, None if endlessly many."""
    require(is_book(book), "book")
    require(is_tongue(book, tongue), "tongue")
    require(is_text(words), "words")
    return readings_count(any_form(book, tongue), words)


def first_readings(book, tongue, words, most):
    """The least readings, ascending by size: as many as most tells, or all."""
    require(is_book(book), "book")
    require(is_tongue(book, tongue), "tongue")
    require(is_text(words), "words")
    require(is_number(most), "most")
    return least_readings(any_form(book, tongue), words, most)


def read_form(form, words):
    """The form of the readings of words in the tongue of this form."""
    return met_form(form, text_machine(words))


def readings_count(form, words):
    """How many readings of words there are in the tongue of this form, None if endlessly many."""
    many = start_count(read_form(form, words)[0])
    if many is not None:
        bound_count(many)
    return many


def least_readings(form, words, most):
    """So many of the least readings of words in the tongue of this form, or all."""
    made, erase, _ = read_form(form, words)
    return tuple([tuple([erase[con] for con in tree]) for tree in first_trees(made, most)])


def first_trees(book, most):
    """So many of the least start trees of a trimmed book, or all, ascending by size."""
    # One more sort has all start trees, under constructors of their own.
    size, starts, cons = book
    roots = list(range(len(cons))) + [con for con, (result, _) in enumerate(cons) if result in starts]
    whole = (size + 1, (size,), cons + tuple([(size, cons[con][1]) for con in roots[len(cons):]]))
    found, queues, waits = opened_lists(whole)
    while len(found[size]) < most and (queues[size] or waits[size]):
        add_least(whole, found, queues, waits, size)
    trees = []
    for rank in range(min(most, len(found[size]))):
        bound_nodes(found[size][rank][0])
        trees.append(tuple([roots[con] for con in listed_tree(whole, found, size, rank)]))
    return trees


def opened_lists(book):
    """For each sort of a book the list of its first tree, the queue of what may follow, and what waits.

    In lists and queues a tree is told by its size, its root, and for each kid the place
    of its tree in the kid's list. What waits for a place in a kid's list is told by the
    root, the places, and which kid it is.
    """
    sizes = least_sizes(book)
    rows = [[] for _ in range(book[0])]
    for con, (result, kids) in enumerate(book[2]):
        rows[result].append((1 + sum([sizes[kid] for kid in kids]), con, (0,) * len(kids)))
    # An ascending list is a queue, with its first member or without.
    rows = [sorted(row) for row in rows]
    waits = [following(row[0]) if row else [] for row in rows]
    return [row[:1] for row in rows], [row[1:] for row in rows], waits


def following(entry):
    """What follows a tree in its sort's list: each choice of places follows just one other."""
    _, con, ranks = entry
    waits = []
    for k, rank in enumerate(ranks):
        waits.append((con, ranks[:k] + (rank + 1,) + ranks[k + 1:], k))
        if rank > 0:
            break
    return waits


def add_least(book, found, queues, waits, sort):
    """Add the next tree, if there is one, to the sort's list, and to those of others what it needs."""
    todo = [sort]
    while todo:
        sort = todo[-1]
        if not waits[sort]:
            todo.pop()
            if queues[sort]:
                found[sort].append(heappop(queues[sort]))
                waits[sort] = following(found[sort][-1])
            continue
        con, ranks, k = waits[sort][-1]
        kids = book[2][con][1]
        kid = kids[k]
        if ranks[k] < len(found[kid]):
            waits[sort].pop()
            size = 1 + sum([found[other][rank][0] for other, rank in zip(kids, ranks)])
            heappush(queues[sort], (size, con, ranks))
        elif queues[kid] or waits[kid]:
            # Its last tree is smaller than that of this sort, so this leads to no ring.
            todo.append(kid)
        else:
            waits[sort].pop()


def listed_tree(book, found, sort, rank):
    """The tree at this place of the sort's list."""
    nodes = []
    todo = [(sort, rank)]
    while todo:
        sort, rank = todo.pop()
        _, con, ranks = found[sort][rank]
        nodes.append(con)
        todo.extend(list(zip(book[2][con][1], ranks))[::-1])
    return nodes
