"""Machines of the fewest states."""


def told_machine(start, moves_of, is_final):
    """A machine of the fewest states that takes the same texts as what is told.

    It begins in start; moves_of tells the words that lead on from a state, each with
    the state to which it leads, and is_final whether a text may end there.
    """
    states, finals, rows = explored(start, moves_of, is_final)
    live = live_states(states, finals, rows)
    kept = [row for row in rows if live[row[0]] and live[row[2]]]
    parts = state_parts(states, finals, kept)
    moves = {}
    for state, word, further in kept:
        moves.setdefault(parts[state], {})[word] = parts[further]
    ends = {parts[state]: True for state in finals}
    return explored(parts[0], lambda part: list(moves.get(part, {}).items()), lambda last: last in ends)


def explored(start, moves_of, is_final):
    """The machine of all states to which start leads; it is told as in told_machine."""
    numbers = {start: 0}
    finals = []
    rows = []
    todo = [start]
    while todo:
        state = todo.pop()
        if is_final(state):
            finals.append(numbers[state])
        for word, further in moves_of(state):
            if further not in numbers:
                numbers[further] = len(numbers)
                todo.append(further)
            rows.append((numbers[state], word, numbers[further]))
    return (len(numbers), tuple(sorted(finals)), tuple(sorted(rows)))


def live_states(states, finals, rows):
    """For each state whether some text leads from it to a final one."""
    back = [[] for _ in range(states)]
    for state, _, further in rows:
        back[further].append(state)
    live = [False] * states
    todo = list(finals)
    while todo:
        state = todo.pop()
        if not live[state]:
            live[state] = True
            todo.extend(back[state])
    return live


def state_parts(states, finals, rows):
    """For each state a number; those of two are equal if the same texts lead from both to finals.

    Each row must lead to a state from which some text does. Parts are split till all
    states of one go by each word to states of one.
    """
    back = [{} for _ in range(states)]
    for state, word, further in rows:
        back[further].setdefault(word, []).append(state)
    numbers = [0] * states
    for state in finals:
        numbers[state] = 1
    members = [{}, {}]
    for state, part in enumerate(numbers):
        members[part][state] = True
    todo = [0, 1]
    waits = [True, True]
    while todo:
        part = todo.pop()
        waits[part] = False
        by_word = {}
        for state in members[part]:
            for word, before in back[state].items():
                by_word.setdefault(word, []).extend(before)
        for before in by_word.values():
            split_parts(before, numbers, members, todo, waits)
    return numbers


def split_parts(states, numbers, members, todo, waits):
    """Set these states apart from others with which they share a part, and note what to go by next."""
    touched = {}
    for state in states:
        touched.setdefault(numbers[state], []).append(state)
    for part, inside in touched.items():
        if len(inside) == len(members[part]):
            continue
        new = len(members)
        members.append({state: True for state in inside})
        waits.append(False)
        for state in inside:
            numbers[state] = new
            del members[part][state]
        # If part itself waits, both halves must; otherwise the smaller one is enough.
        less = new if waits[part] or len(members[new]) <= len(members[part]) else part
        waits[less] = True
        todo.append(less)
