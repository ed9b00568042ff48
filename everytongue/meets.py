"""Meets: forms of just those trees whose text a machine takes."""

from everytongue.closing import grown_form
from everytongue.formchecker import is_form
from everytongue.items import all_items
from everytongue.joins import join_plan, merged, row_points, states_around, states_at
from everytongue.machinechecker import is_machine
from everytongue.machines import led_on, machine_moves
from everytongue.refusing import require
from everytongue.speaking import words_in


def form_words(form):
    """The ascending tuple of the words in the form's rows."""
    require(is_form(form), "form")
    return tuple(sorted(set(words_in(form[2][2]))))


def meet(form, machine):
    """A form of just those start trees whose text the machine takes."""
    require(is_form(form), "form")
    require(is_machine(machine), "machine")
    return met_form(form, machine)


def met_form(form, machine):
    """The meet of what are known to be a form and a machine."""
    starts, ways_of = met_ways(form, machine)
    return grown_form(starts, ways_of)


def met_ways(form, machine):
    """The start sorts of the meet: pairs of a sort and an item; then what tells, as for grown_book, their ways."""
    made, _, said = form
    items = all_items(form, machine)
    moves = machine_moves(machine)
    joints = [item_joint(moves, said[1], items, kids, row) for (_, kids), row in zip(made[2], said[2])]
    cons = [[] for _ in range(made[0])]
    for con, (result, _) in enumerate(made[2]):
        cons[result].append(con)
    starts = taken_starts(made, items, machine)
    return starts, lambda key: item_ways(form, moves, joints, cons[key[0]], key[1])


def taken_starts(made, items, machine):
    """The pairs of a start sort and one of its items that texts have which the machine takes."""
    finals = {((0, state),): True for state in machine[1]}
    return [(start, item) for start in made[1] for item in items[start] if item in finals]


def item_joint(moves, widths, items, kids, row):
    """How items of kids are found of which a constructor with this row makes an item.

    The ends of each piece, a plan to join the kids to these, and for each step of it a table
    of its kid's items, by the states that must be those known already.
    """
    ends, around, points = row_points(widths, kids, row)
    outer = [point for _, first, last in ends for point in (first, last)]
    plan = join_plan(points, outer, [])
    tables = []
    for k, shared, _ in plan:
        table = {}
        for item in items[kids[k]]:
            states = states_around(moves, around[k], item)
            if states is not None:
                table.setdefault(states_at(shared, states), []).append((states, item))
        tables.append(table)
    return ends, plan, tables


def kids_of_item(moves, joint, item):
    """The tuples of kids' items of which the constructor makes this item."""
    ends, plan, tables = joint
    known = {}
    for (state, further), (words, first, last) in zip(item, ends):
        state = led_on(moves, state, words)
        if first != -1:
            known[first], known[last] = state, further
        elif state != further:
            return []
    rows = [(known, ())]
    for (_, shared, kept), table in zip(plan, tables):
        found = []
        for one, told in rows:
            for other, inner in table.get(states_at(shared, one), []):
                found.append((dict(zip(kept, merged(kept, one, other))), told + (inner,)))
        rows = found
    sequence = sorted([(k, step) for step, (k, _, _) in enumerate(plan)])
    return [tuple([told[step] for _, step in sequence]) for _, told in rows]


def item_ways(form, moves, joints, cons, item):
    """The constructors among cons that make the item, with their kids' sorts and items, and rows."""
    made, erase, said = form
    ways = []
    for con in cons:
        sorts = made[2][con][1]
        for kids in kids_of_item(moves, joints[con], item):
            ways.append((erase[con], tuple(zip(sorts, kids)), said[2][con]))
    return ways
