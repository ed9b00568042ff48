"""Items: along which spans of a machine trees say their texts."""

from everytongue.checkers import is_con
from everytongue.closing import choices, kid_positions
from everytongue.formchecker import is_form
from everytongue.joins import join_plan, merged, row_points, states_around, states_at
from everytongue.kinds import is_below
from everytongue.machinechecker import is_machine
from everytongue.machines import led_on, machine_moves
from everytongue.refusing import require


def items_made(form, machine, con, items):
    """The ascending tuple of the items that con makes of these of its kids."""
    require(is_form(form), "form")
    require(is_machine(machine), "machine")
    require(is_con(form[0], con), "con")
    require(are_items(form, machine, con, items), "items")
    moves = machine_moves(machine)
    spans = [piece_spans(moves, machine[0], piece, items) for piece in form[2][2][con]]
    return tuple(choices(spans))


def items_of(form, machine):
    """For each sort the ascending tuple of the items that come there."""
    require(is_form(form), "form")
    require(is_machine(machine), "machine")
    return tuple([tuple(row) for row in all_items(form, machine)])


def are_items(form, machine, con, thing):
    """Whether thing has, for each kid of con, a tuple of pairs of states, one for each piece."""
    kids = form[0][2][con][1]
    if not (isinstance(thing, tuple) and len(thing) == len(kids)):
        return False
    return all([is_item(machine[0], form[2][1][kid], item) for kid, item in zip(kids, thing)])


def is_item(states, width, thing):
    """Whether thing is a tuple of so many pairs of numbers below states."""
    if not (isinstance(thing, tuple) and len(thing) == width):
        return False
    return all([is_span(states, span) for span in thing])


def is_span(states, thing):
    """Whether thing is a pair of numbers below states."""
    if not (isinstance(thing, tuple) and len(thing) == 2):
        return False
    return is_below(thing[0], states) and is_below(thing[1], states)


def piece_spans(moves, states, piece, items):
    """The ascending list of the spans along which a piece leads if kids have these items."""
    spans = []
    for first in range(states):
        last = first
        for item in piece:
            if isinstance(item, str):
                last = moves.get((last, item), -1)
            else:
                start, end = items[item[0]][item[1]]
                last = end if last == start else -1
        if last != -1:
            spans.append((first, last))
    return spans


def all_items(form, machine):
    """For each sort the ascending list of the items that come there."""
    made, _, said = form
    moves = machine_moves(machine)
    joints = [kid_joint(moves, machine[0], said[1], kids, row) for (_, kids), row in zip(made[2], said[2])]
    positions = kid_positions(made)
    found = [{} for _ in range(made[0])]
    fresh = []
    for con, (result, kids) in enumerate(made[2]):
        if not kids:
            fresh.extend([(result, item) for item in end_items(joints[con][1], {})])
    todo = []
    while fresh or todo:
        for sort, item in fresh:
            if item not in found[sort]:
                found[sort][item] = True
                todo.append((sort, item))
        fresh = []
        if todo:
            sort, item = todo.pop()
            for con, at in positions[sort]:
                fresh.extend([(made[2][con][0], new) for new in new_items(moves, joints[con], at, item)])
    return [sorted(row) for row in found]


def items_from(moves, states, widths, con, row, lists):
    """All items, some perhaps twice, that a constructor with this row makes of items in its kids' lists."""
    joint = kid_joint(moves, states, widths, con[1], row)
    if not lists:
        return end_items(joint[1], {})
    found = []
    for k, items in enumerate(lists):
        for item in items:
            found.extend(new_items(moves, joint, k, item))
    return found


def kid_joint(moves, states, widths, kids, row):
    """How items of the kids of a constructor with this row are joined.

    The points around each kid's slots, the ends of each piece, and a plan. For each step of
    the plan a table of what kids ahead of it come to, one of its own kid's items, and what
    stands in these; by the states that both must have in common.
    """
    told, around, points = row_points(widths, kids, row)
    ends = [piece_ends(moves, states, words, first, last) for words, first, last in told]
    outer = [point for _, first, last in told for point in (first, last)]
    plan = join_plan(points, [], outer)
    ahead = [{} for _ in plan]
    if ahead:
        ahead[0][()] = [{}]
    return around, ends, plan, ahead, [{} for _ in plan], [{} for _ in plan]


def piece_ends(moves, states, words, first, last):
    """The first and last point of a piece, with the states from which words lead to each state.

    Without points all spans along which the words lead.
    """
    spans = [(state, led_on(moves, state, words)) for state in range(states)]
    spans = [span for span in spans if span[1] != -1]
    if first == -1:
        return first, last, spans
    heads = {}
    for state, further in spans:
        heads.setdefault(further, []).append(state)
    return first, last, heads


def end_items(ends, known):
    """The items of a constructor if these states are known at the ends of its pieces."""
    lists = []
    for first, last, told in ends:
        if first == -1:
            lists.append(told)
        else:
            lists.append([(state, known[last]) for state in told.get(known[first], [])])
    return choices(lists)


def new_items(moves, joint, kid, item):
    """The items that a constructor makes if this kid has the item, and others have some that they had before."""
    around, ends, plan, ahead, own, seen = joint
    states = states_around(moves, around[kid], item)
    if states is None:
        return []
    step = [other for other, _, _ in plan].index(kid)
    key = states_at(plan[step][1], states)
    own[step].setdefault(key, []).append(states)
    todo = [(step, one, states) for one in ahead[step].get(key, [])]
    found = []
    while todo:
        step, one, other = todo.pop()
        values = merged(plan[step][2], one, other)
        if values in seen[step]:
            continue
        seen[step][values] = True
        known = dict(zip(plan[step][2], values))
        step += 1
        if step == len(plan):
            found.extend(end_items(ends, known))
            continue
        key = states_at(plan[step][1], known)
        ahead[step].setdefault(key, []).append(known)
        todo.extend([(step, known, more) for more in own[step].get(key, [])])
    return found
