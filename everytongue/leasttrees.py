"""The least trees and contexts."""

from heapq import heappop, heappush

from everytongue.checkers import is_book, is_sort
from everytongue.refusing import bound_nodes, require
from everytongue.trimming import kid_uses


def least_size(book, sort):
    """The least size of a tree of the sort, None without trees."""
    require(is_book(book), "book")
    require(is_sort(book, sort), "sort")
    return least_sizes(book)[sort]


def least_tree(book, sort):
    """The first tree of the sort, in order, None without trees."""
    require(is_book(book), "book")
    require(is_sort(book, sort), "sort")
    sizes = least_sizes(book)
    if sizes[sort] is None:
        return None
    bound_nodes(sizes[sort])
    return grown_tree(book, least_roots(book, sizes), sort)


def least_context(book, sort):
    """Any context of the fewest nodes that makes the sort's trees start trees."""
    require(is_book(book), "book")
    require(is_sort(book, sort), "sort")
    sizes = least_sizes(book)
    costs, steps = outer_steps(book, sizes)
    if costs[sort] is None:
        return None
    bound_nodes(costs[sort])
    return grown_context(book, least_roots(book, sizes), steps, sort)


def made_size(sizes, kids):
    """The least size of a tree whose root has these kids, None without trees."""
    least = [sizes[kid] for kid in kids]
    if None in least:
        return None
    return 1 + sum(least)


def least_sizes(book):
    """For each sort the least size of its trees, None without trees."""
    uses = kid_uses(book)
    waits = [len(kids) for _, kids in book[2]]
    sizes = [None] * book[0]
    queue = []
    for con, (result, _) in enumerate(book[2]):
        if waits[con] == 0:
            heappush(queue, (1, result))
    while queue:
        size, sort = heappop(queue)
        if sizes[sort] is not None:
            continue
        sizes[sort] = size
        for con in uses[sort]:
            waits[con] -= 1
            if waits[con] == 0:
                heappush(queue, (made_size(sizes, book[2][con][1]), book[2][con][0]))
    return sizes


def least_roots(book, sizes):
    """For each sort the first constructor at the root of a least tree, None without trees."""
    roots = [None] * book[0]
    for con, (result, kids) in enumerate(book[2]):
        size = made_size(sizes, kids)
        if roots[result] is None and size is not None and size == sizes[result]:
            roots[result] = con
    return roots


def grown_tree(book, roots, sort):
    """The tree of the sort in which the constructors of roots stand."""
    nodes = []
    todo = [sort]
    while todo:
        con = roots[todo.pop()]
        nodes.append(con)
        todo.extend(book[2][con][1][::-1])
    return tuple(nodes)


def grown_context(book, roots, steps, sort):
    """The context of the sort that steps tell, as outer_steps does, with the trees of roots beside its hole."""
    rows = []
    while steps[sort] is not None:
        con, at = steps[sort]
        sort, kids = book[2][con]
        rows.append((con, at, [grown_tree(book, roots, kid) if k != at else () for k, kid in enumerate(kids)]))
    return flat_context(rows)


def flat_context(rows):
    """The context of these rows, from its hole outward: a constructor, the hole's place, the kids' trees."""
    front = []
    back = []
    for con, at, trees in rows:
        front.append((con,) + tuple([node for tree in trees[:at] for node in tree]))
        back.append(tuple([node for tree in trees[at + 1:] for node in tree]))
    ahead = tuple([node for part in front[::-1] for node in part])
    return ahead + (-1,) + tuple([node for part in back for node in part])


def outer_steps(book, sizes):
    """How contexts of the fewest nodes lead from start trees to each sort.

    First the number of nodes for each sort, None if the sort is not used;
    then the pair of the constructor next to the hole and the hole's place
    among its kids, None if the context is the hole alone.
    """
    rows = [[] for _ in range(book[0])]
    for con, (result, _) in enumerate(book[2]):
        rows[result].append(con)
    costs = [None] * book[0]
    steps = [None] * book[0]
    queue = []
    for start in book[1]:
        if sizes[start] is not None:
            heappush(queue, (0, start, -1, -1))
    while queue:
        cost, sort, con, at = heappop(queue)
        if costs[sort] is not None:
            continue
        costs[sort] = cost
        if con != -1:
            steps[sort] = (con, at)
        for further in rows[sort]:
            kids = book[2][further][1]
            size = made_size(sizes, kids)
            for k, kid in enumerate(kids):
                if size is not None and costs[kid] is None:
                    heappush(queue, (cost + size - sizes[kid], kid, further, k))
    return costs, steps


def first_roots(book, erase):
    """For each sort with trees the size and the root of its first tree, by the order of trees as erased.

    The sorts stand in the order of these trees.
    """
    uses = kid_uses(book)
    waits = [len(kids) for _, kids in book[2]]
    found = {}
    places = {}
    queue = []
    last, place = (), 0
    for con, wait in enumerate(waits):
        if wait == 0:
            heappush(queue, (1, erase[con], (), (), con))
    while queue:
        entry = heappop(queue)
        size, con = entry[0], entry[4]
        sort = book[2][con][0]
        if sort in found:
            continue
        # First trees of several sorts that erase alike share one place.
        if entry[:4] != last:
            last, place = entry[:4], len(found)
        places[sort] = place
        found[sort] = (size, con)
        for further in uses[sort]:
            waits[further] -= 1
            if waits[further] == 0:
                kids = book[2][further][1]
                sizes = tuple([found[kid][0] for kid in kids])
                order = tuple([places[kid] for kid in kids])
                heappush(queue, (1 + sum(sizes), erase[further], sizes, order, further))
    return found
