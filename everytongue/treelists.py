"""The least start trees of books, told from lists of the least trees of each sort.

In lists and queues a tree is told by its size, its root, and for each kid the place
of its tree in the kid's list. What waits for a place in a kid's list is told by the
root, the places, and which kid it is.
"""

from heapq import heappop, heappush

from everytongue.leasttrees import least_sizes, made_size
from everytongue.refusing import bound_nodes


def first_trees(book, most):
    """So many of the least start trees, or all, ascending by size."""
    whole, roots = start_book(book)
    found, queues, waits = opened_lists(whole)
    start = book[0]
    while len(found[start]) < most and (queues[start] or waits[start]):
        add_least(whole, found, queues, waits, start)
    trees = []
    for rank, entry in enumerate(found[start][:most]):
        bound_nodes(entry[0])
        trees.append(tuple([roots[con] for con in listed_tree(whole, found, start, rank)]))
    return trees


def small_trees(book, most, nodes):
    """All start trees up to some size, ascending by size: as far as they are at most so many, with so many nodes."""
    whole, roots = start_book(book)
    found, queues, waits = opened_lists(whole)
    start = book[0]
    entries = found[start]
    while entries and len(entries) <= most and entries[-1][0] <= nodes and (queues[start] or waits[start]):
        add_least(whole, found, queues, waits, start)
    # Of the last one's size there may be more, if it is one too many.
    if len(entries) > most or entries and entries[-1][0] > nodes:
        nodes = entries[-1][0] - 1
    ranks = [rank for rank, entry in enumerate(entries) if entry[0] <= nodes]
    return [tuple([roots[con] for con in listed_tree(whole, found, start, rank)]) for rank in ranks]


def start_book(book):
    """The book with one more sort that has all start trees, by constructors of its own, and what these stand for."""
    size, starts, cons = book
    roots = list(range(len(cons))) + [con for con, (result, _) in enumerate(cons) if result in starts]
    return (size + 1, (size,), cons + tuple([(size, cons[con][1]) for con in roots[len(cons):]])), roots


def opened_lists(book):
    """For each sort the list of its first tree, the queue of what may follow, and what waits."""
    sizes = least_sizes(book)
    rows = [[] for _ in range(book[0])]
    for con, (result, kids) in enumerate(book[2]):
        size = made_size(sizes, kids)
        if size is not None:
            rows[result].append((size, con, (0,) * len(kids)))
    # An ascending list is a queue, with its first member or without.
    rows = [sorted(row) for row in rows]
    waits = [following(row[0]) if row else [] for row in rows]
    return [row[:1] for row in rows], [row[1:] for row in rows], waits


def following(entry):
    """What follows a tree in its sort's list: each choice of places follows just one other."""
    _, con, ranks = entry
    waits = []
    for k, rank in enumerate(ranks):
        waits.append((con, ranks[:k] + (rank + 1,) + ranks[k + 1:], k))
        if rank > 0:
            break
    return waits


def add_least(book, found, queues, waits, sort):
    """Add the next tree, if there is one, to the sort's list, and to those of others what it needs."""
    todo = [sort]
    while todo:
        sort = todo[-1]
        if not waits[sort]:
            todo.pop()
            if queues[sort]:
                found[sort].append(heappop(queues[sort]))
                waits[sort] = following(found[sort][-1])
            continue
        con, ranks, k = waits[sort][-1]
        kids = book[2][con][1]
        kid = kids[k]
        if ranks[k] < len(found[kid]):
            waits[sort].pop()
            size = 1 + sum([found[other][rank][0] for other, rank in zip(kids, ranks)])
            heappush(queues[sort], (size, con, ranks))
        elif queues[kid] or waits[kid]:
            # Its last tree is smaller than that of this sort, so this leads to no ring.
            todo.append(kid)
        else:
            waits[sort].pop()


def listed_tree(book, found, sort, rank):
    """The tree at this place of the sort's list."""
    nodes = []
    todo = [(sort, rank)]
    while todo:
        sort, rank = todo.pop()
        _, con, ranks = found[sort][rank]
        nodes.append(con)
        todo.extend(list(zip(book[2][con][1], ranks))[::-1])
    return nodes
