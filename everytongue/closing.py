"""What trees come to, if a constructor and the states of its kids tell a tree's state."""


def choices(lists):
    """All tuples of one member of each of the lists."""
    rows = [()]
    for members in lists:
        rows = [row + (member,) for row in rows for member in members]
    return rows


def closed_states(book, make):
    """For each sort the states of its trees; then each way in which a constructor makes one.

    make tells the state that a constructor makes of a tuple of its kids' states.
    A way is a triple of the constructor, this tuple and the state made.
    """
    positions = kid_positions(book)
    states = [{} for _ in range(book[0])]
    gone = [[] for _ in range(book[0])]
    ways = []
    fresh = [(con, ()) for con, (_, kids) in enumerate(book[2]) if not kids]
    todo = []
    while fresh or todo:
        for con, row in fresh:
            sort, state = book[2][con][0], make(con, row)
            ways.append((con, row, state))
            if state not in states[sort]:
                states[sort][state] = True
                todo.append((sort, state))
        fresh = []
        if todo:
            sort, state = todo.pop()
            for con, at in positions[sort]:
                fresh.extend(new_rows(book, gone, con, at, state))
            gone[sort].append(state)
    return [sorted(row) for row in states], ways


def kid_positions(book):
    """For each sort the pairs of a constructor and a place among its kids where it stands."""
    positions = [[] for _ in range(book[0])]
    for con, (_, kids) in enumerate(book[2]):
        for at, kid in enumerate(kids):
            positions[kid].append((con, at))
    return positions


def new_rows(book, gone, con, at, state):
    """The constructor, with each choice for its kids in which the new state first stands at at.

    All other states in a choice are gone, or the new one again.
    """
    kids = book[2][con][1]
    ahead = [gone[kid] for kid in kids[:at]]
    behind = [gone[kid] + [state] if kid == kids[at] else gone[kid] for kid in kids[at + 1:]]
    return [(con, row) for row in choices(ahead + [[state]] + behind)]
