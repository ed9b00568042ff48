"""Papers that tell whether a form's sentences grow for ever, or all of them."""

from heapq import heappop, heappush

from everytongue.erasing import is_trim_form
from everytongue.errors import TooMuch
from everytongue.leasttrees import flat_context, grown_context, grown_tree, least_roots, least_sizes, outer_steps
from everytongue.refusing import MOST_NODES, require
from everytongue.rings import ring_parts
from everytongue.saying import row_words
from everytongue.textrows import finite_rows, growing_parts, sort_edges


def growth(form):
    """A tree with a context that makes its sentence longer for ever, or all rows with what makes them."""
    require(is_trim_form(form), "form")
    growing = growing_parts(form)
    if growing:
        return ("endless", growing_triple(form, growing))
    found = finite_rows(form)
    lists = [sorted(rows) for rows in found]
    places = [{row: place for place, row in enumerate(rows)} for rows in lists]
    told = []
    for ways, rows in zip(found, lists):
        told.append(tuple([(row, placed(form[0], places, ways[row])) for row in rows]))
    return ("finite", tuple(told))


def placed(made, places, way):
    """The way with the places of kids' rows in the place of these."""
    con, rows = way
    return (con, tuple([places[kid][row] for kid, row in zip(made[2][con][1], rows)]))


def growing_triple(form, growing):
    """Two contexts and a tree as growth tells them; growing has the parts of the sorts that may do."""
    made = form[0]
    sizes = least_sizes(made)
    roots = least_roots(made, sizes)
    costs, steps = outer_steps(made, sizes)
    loops = loop_steps(form, sizes)
    parts = ring_parts(sort_edges(made))
    for sort in range(made[0]):
        if parts[sort] in growing and sizes[sort] <= MOST_NODES and costs[sort] <= MOST_NODES:
            rows = inner_rows(loops, sort)
            if rows:
                outer = grown_context(made, roots, steps, sort)
                return (outer, inner_context(form, rows), grown_tree(made, roots, sort))
    raise TooMuch("tree")


def worded_book(form):
    """The form's book, then each sort once more, for its trees with words; then what each constructor stands for."""
    made, _, said = form
    many = made[0]
    cons = list(made[2])
    origins = list(range(len(cons)))
    for con, (result, kids) in enumerate(made[2]):
        if row_words(said[2][con]) > 0:
            cons.append((result + many, kids))
            origins.append(con)
            continue
        for k, kid in enumerate(kids):
            cons.append((result + many, kids[:k] + (kid + many,) + kids[k + 1:]))
            origins.append(con)
    return (2 * many, made[1], tuple(cons)), origins


def loop_steps(form, sizes):
    """For each sort the steps inward, to kids of its own part.

    Each is a tuple of the kid's sort, how many nodes the step takes, whether there are words in
    them, the constructor, the kid's place, and the place of a kid whose tree must have words, or -1.
    """
    made, _, said = form
    parts = ring_parts(sort_edges(made))
    worded = least_sizes(worded_book(form)[0])[made[0]:]
    loops = [[] for _ in range(made[0])]
    for con, (result, kids) in enumerate(made[2]):
        own = row_words(said[2][con]) > 0
        for at, kid in enumerate(kids):
            if parts[kid] != parts[result]:
                continue
            cost = 1 + sum([sizes[other] for k, other in enumerate(kids) if k != at])
            loops[result].append((kid, cost, own, con, at, -1))
            for k, other in enumerate(kids):
                if k != at and not own and worded[other] is not None:
                    loops[result].append((kid, cost - sizes[other] + worded[other], True, con, at, k))
    return loops


def inner_rows(loops, sort):
    """The steps, from the hole outward, of the least context with words of the sort with this sort around it.

    Each is a triple of the constructor, the hole's place and the place of a kid with words, or -1.
    None if it has too many nodes.
    """
    queue = [(0, sort, False, ())]
    ahead = {}
    while queue:
        cost, inner, words, came = heappop(queue)
        if cost > MOST_NODES:
            return None
        if (inner, words) in ahead:
            continue
        ahead[(inner, words)] = came
        if words and inner == sort:
            break
        for kid, more, own, con, at, k in loops[inner]:
            heappush(queue, (cost + more, kid, words or own, (inner, words, con, at, k)))
    rows = []
    came = ahead[(sort, True)]
    while came:
        inner, words, con, at, k = came
        rows.append((con, at, k))
        came = ahead[(inner, words)]
    return rows


def inner_context(form, rows):
    """The context that steps tell, as inner_rows does."""
    made = form[0]
    book, origins = worded_book(form)
    roots = least_roots(book, least_sizes(book))
    told = []
    for con, at, worded in rows:
        trees = []
        for k, kid in enumerate(made[2][con][1]):
            sort = kid + made[0] if k == worded else kid
            trees.append([origins[node] for node in grown_tree(book, roots, sort)] if k != at else [])
        told.append((con, at, trees))
    return flat_context(told)
