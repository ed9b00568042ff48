"""The checker of what growth tells."""

from everytongue.checkers import is_any_tree, is_con, tree_sort
from everytongue.erasing import is_trim_form
from everytongue.kinds import is_ascending, is_below, is_each, is_text, is_tuple
from everytongue.refusing import accept, require
from everytongue.rings import lasting_nodes
from everytongue.saying import filled_row, row_words
from everytongue.textrows import folded_rows
from everytongue.trees import is_context_of


def lets_growth(form, thing):
    """Return the first element of what growth may tell."""
    require(is_trim_form(form), "form")
    accept(growth_fault(form, thing))
    return thing[0]


def growth_fault(form, thing):
    """The first entry of lets_growth's list that applies to thing, or None."""
    if not (isinstance(thing, tuple) and len(thing) == 2):
        return ("shape", -1)
    if thing[0] == "finite":
        return rows_fault(form, thing[1])
    if thing[0] == "endless" and isinstance(thing[1], tuple) and len(thing[1]) == 3:
        return triple_fault(form, thing[1])
    return ("shape", -1)


def triple_fault(form, thing):
    """The first entry of the list that applies to the triple that "endless" tells, or None."""
    made, _, said = form
    outer, inner, tree = thing
    if not is_any_tree(made, tree):
        return ("tree", -1)
    sort = tree_sort(made, tree)
    if not is_context_of(made, sort, inner) or around_sort(made, sort, inner) != sort:
        return ("inner", -1)
    if not is_context_of(made, sort, outer) or around_sort(made, sort, outer) not in made[1]:
        return ("outer", -1)
    if sum([row_words(said[2][con]) for con in inner if con != -1]) == 0:
        return ("words", -1)
    return None


def around_sort(made, sort, context):
    """The sort around what is known to be a context of this sort."""
    return sort if context[0] == -1 else tree_sort(made, context)


def rows_fault(form, thing):
    """The first entry of the list that applies to what "finite" tells, or None."""
    made, _, said = form
    if not (is_each(thing, is_tuple) and len(thing) == made[0]):
        return ("lists", -1)
    for sort, told in enumerate(thing):
        if not all([is_told_row(form, thing, sort, pair) for pair in told]):
            return ("lists", sort)
        if not is_ascending([row for row, _ in told]):
            return ("lists", sort)
    rows = [[row for row, _ in told] for told in thing]
    listed = [{row: True for row in texts} for texts in rows]
    for con, (result, kids) in enumerate(made[2]):
        for row in folded_rows(said[2][con], [rows[kid] for kid in kids]):
            if row not in listed[result]:
                return ("open", con)
    for sort, told in enumerate(thing):
        for row, (con, places) in told:
            texts = [rows[kid][place] for kid, place in zip(made[2][con][1], places)]
            if filled_row(said[2][con], texts) != row:
                return ("row", sort)
    return ring_fault(made, [[way for _, way in told] for told in thing])


def ring_fault(made, thing):
    """The first sort from one of whose ways, pairs of a constructor and places, one can go on for ever, or None."""
    keys = [(sort, place) for sort, told in enumerate(thing) for place in range(len(told))]
    numbers = {key: number for number, key in enumerate(keys)}
    edges = []
    for sort, place in keys:
        con, places = thing[sort][place]
        edges.append([numbers[key] for key in zip(made[2][con][1], places)])
    for (sort, _), lasts in zip(keys, lasting_nodes(edges)):
        if lasts:
            return ("ring", sort)
    return None


def is_told_row(form, lists, sort, thing):
    """Whether thing is a pair of a row for the sort and a way to make it of rows at places of the lists."""
    if not (isinstance(thing, tuple) and len(thing) == 2):
        return False
    if not (is_each(thing[0], is_text) and len(thing[0]) == form[2][1][sort]):
        return False
    return is_way(form[0], lists, sort, thing[1])


def is_way(made, lists, sort, thing):
    """Whether thing is a pair of a constructor of the sort and, for each of its kids, a place in the kid's list."""
    if not (isinstance(thing, tuple) and len(thing) == 2 and is_con(made, thing[0])):
        return False
    con, places = thing
    result, kids = made[2][con]
    if result != sort or not isinstance(places, tuple) or len(places) != len(kids):
        return False
    return all([is_below(place, len(lists[kid])) for kid, place in zip(kids, places)])
