"""What trees come to, if a constructor and the states of its kids tell a tree's state.

Books whose sorts tell such states, too.
"""

from everytongue.silents import strike
from everytongue.trees import kid_places


def choices(lists):
    """All tuples of one member of each of the lists."""
    rows = [()]
    for members in lists:
        rows = [row + (member,) for row in rows for member in members]
    return rows


def closed_states(book, make):
    """For each sort the states of its trees; then each way in which a constructor makes one.

    make tells the state that a constructor makes of a tuple of its kids' states.
    A way is a triple of the constructor, this tuple and the state made.
    """
    positions = kid_positions(book)
    states = [{} for _ in range(book[0])]
    gone = [[] for _ in range(book[0])]
    ways = []
    fresh = [(con, ()) for con, (_, kids) in enumerate(book[2]) if not kids]
    todo = []
    while fresh or todo:
        for con, row in fresh:
            sort, state = book[2][con][0], make(con, row)
            ways.append((con, row, state))
            if state not in states[sort]:
                states[sort][state] = True
                todo.append((sort, state))
        fresh = []
        if todo:
            sort, state = todo.pop()
            for con, at in positions[sort]:
                fresh.extend(new_rows(book, gone, con, at, state))
            gone[sort].append(state)
    return [sorted(row) for row in states], ways


def remembered(make):
    """The function make, which tells each answer from what it told before where it can."""
    known = {}
    return lambda con, row: known_answer(known, make, con, row)


def known_answer(known, make, con, row):
    """What make tells; known has its answers so far."""
    if (con, row) not in known:
        known[(con, row)] = make(con, row)
    return known[(con, row)]


def tree_state(book, make, tree):
    """The state of a tree that is known to be one."""
    places = kid_places(book, tree)
    states = [()] * len(tree)
    for at in reversed(range(len(tree))):
        states[at] = make(tree[at], tuple([states[place] for place in places[at]]))
    return states[0]


def kid_positions(book):
    """For each sort the pairs of a constructor and a place among its kids where it stands."""
    positions = [[] for _ in range(book[0])]
    for con, (_, kids) in enumerate(book[2]):
        for at, kid in enumerate(kids):
            positions[kid].append((con, at))
    return positions


def new_rows(book, gone, con, at, state):
    """The constructor, with each choice for its kids in which the new state first stands at at.

    All other states in a choice are gone, or the new one again.
    """
    kids = book[2][con][1]
    ahead = [gone[kid] for kid in kids[:at]]
    behind = [gone[kid] + [state] if kid == kids[at] else gone[kid] for kid in kids[at + 1:]]
    return [(con, row) for row in choices(ahead + [[state]] + behind)]


def ways_by_state(book, ways):
    """For each sort and state the pairs of a constructor and its kids' states that make it."""
    makers = {}
    for con, row, state in ways:
        makers.setdefault((book[2][con][0], state), []).append((con, row))
    return makers


def paired_book(book, pairs, ways):
    """The book whose sorts are pairs of a sort and a state, its constructors the ways."""
    numbers = {pair: number for number, pair in enumerate(pairs)}
    starts = tuple([number for number, (sort, _) in enumerate(pairs) if sort in book[1]])
    cons = []
    for con, states, state in ways:
        result, kids = book[2][con]
        kid_numbers = tuple([numbers[pair] for pair in zip(kids, states)])
        cons.append((numbers[(result, state)], kid_numbers))
    return (len(pairs), starts, tuple(cons))


def grown_book(starts, ways_of):
    """The book whose sorts are the keys to which starts lead, what it erases to, and its rows.

    ways_of tells the constructors of a key: triples of the constructor to which it is
    erased, the tuple of the kids' keys, and the row.
    """
    numbers = {}
    told = []
    todo = list(starts)
    while todo:
        key = todo.pop()
        if key in numbers:
            continue
        numbers[key] = len(numbers)
        for con, kids, row in ways_of(key):
            told.append((numbers[key], con, kids, row))
            todo.extend(kids)
    cons = tuple([(sort, tuple([numbers[kid] for kid in kids])) for sort, _, kids, _ in told])
    made = (len(numbers), tuple(sorted([numbers[start] for start in starts])), cons)
    return made, tuple([con for _, con, _, _ in told]), tuple([row for _, _, _, row in told])


def grown_form(starts, ways_of):
    """The form told by grown_book; each key that is led to must have trees."""
    made, erase, rows = grown_book(starts, ways_of)
    widths = [0] * made[0]
    for (sort, _), row in zip(made[2], rows):
        widths[sort] = len(row)
    return (made, erase, ("pieces", tuple(widths), rows))


def struck_form(starts, ways_of):
    """The form told by grown_form, struck; rows may have no piece, and no slots for such kids."""
    made, erase, rows = grown_book(starts, ways_of)
    bare = [False] * made[0]
    widths = [1] * made[0]
    for (sort, _), row in zip(made[2], rows):
        bare[sort] = len(row) == 0
        widths[sort] = max(1, len(row))
    filled = []
    for (_, kids), row in zip(made[2], rows):
        first = row[0] if row else ()
        first = first + tuple([(k, 0) for k, kid in enumerate(kids) if bare[kid]])
        filled.append((first,) + row[1:])
    return (made, erase, strike(made, ("pieces", tuple(widths), tuple(filled))))
