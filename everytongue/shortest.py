"""The shortest sentences of forms."""

from heapq import heappop, heappush

from everytongue.erasing import is_trim_form
from everytongue.leasttrees import grown_tree
from everytongue.refusing import bound_nodes, require
from everytongue.saying import filled_row, row_words
from everytongue.trimming import kid_uses


def shortest(form):
    """The text of the fewest words and a start tree of the fewest nodes that says it; None without start trees."""
    require(is_trim_form(form), "form")
    found = short_roots(form)
    start = least_start(form, found)
    if start is None:
        return None
    bound_nodes(found[start][1])
    roots = {sort: con for sort, (_, _, con) in found.items()}
    return (short_text(form, found, start), grown_tree(form[0], roots, start))


def short_roots(form):
    """For each sort with trees the fewest words, then nodes, of a tree, and its root; kids' sorts come first."""
    made, _, said = form
    own = [row_words(row) for row in said[2]]
    uses = kid_uses(made)
    waits = [len(kids) for _, kids in made[2]]
    found = {}
    queue = []
    for con, wait in enumerate(waits):
        if wait == 0:
            heappush(queue, (own[con], 1, con))
    while queue:
        words, nodes, con = heappop(queue)
        sort = made[2][con][0]
        if sort in found:
            continue
        found[sort] = (words, nodes, con)
        for further in uses[sort]:
            waits[further] -= 1
            if waits[further] == 0:
                kids = [found[kid] for kid in made[2][further][1]]
                words = own[further] + sum([kid[0] for kid in kids])
                heappush(queue, (words, 1 + sum([kid[1] for kid in kids]), further))
    return found


def least_start(form, found):
    """The start sort of the tree of the fewest words, then nodes, as short_roots found them; None without trees."""
    costs = [(found[start][:2], start) for start in form[0][1] if start in found]
    return min(costs)[1] if costs else None


def short_text(form, found, start):
    """The text of the tree of this start sort that short_roots found."""
    made, _, said = form
    below = {}
    todo = [start]
    while todo:
        sort = todo.pop()
        if sort not in below:
            below[sort] = True
            todo.extend(made[2][found[sort][2]][1])
    # The tree may be too great to be told, while its text is not: each sort says its row once.
    texts = {}
    for sort, (_, _, con) in found.items():
        if sort in below:
            texts[sort] = filled_row(said[2][con], [texts[kid] for kid in made[2][con][1]])
    return texts[start][0]
