"""Patterns of texts, and their machines."""

from everytongue.kinds import is_vocabulary, is_word
from everytongue.leastmachines import told_machine
from everytongue.refusing import require


def is_pattern(thing):
    """Whether thing is a pattern."""
    todo = [thing]
    while todo:
        inner = inner_patterns(todo.pop())
        if inner is None:
            return False
        todo.extend(inner)
    return True


def pattern_machine(pattern, vocabulary):
    """A machine that takes just the texts that the pattern matches."""
    require(is_pattern(pattern), "pattern")
    require(is_vocabulary(vocabulary), "vocabulary")
    leaves, follow = [], []
    empty, firsts, lasts = told_pattern(pattern, leaves, follow)
    named = [leaf[1] for leaf in leaves if leaf[0] == "word"]
    others = [word for word in vocabulary if word not in named]
    # Words that the pattern does not name lead alike, so the first one stands for all.
    letters = sorted(set(named)) + others[:1]
    free = [word in vocabulary for word in letters]
    ends = {leaf: True for leaf in lasts}
    states, finals, rows = told_machine(
        (), lambda read: leaf_moves(leaves, next_leaves(follow, firsts, read), letters, free),
        lambda read: any([leaf in ends for leaf in read]) or (empty and read == ()))
    alike = [(state, other, further) for state, word, further in rows if word in others for other in others[1:]]
    return (states, finals, tuple(sorted(list(rows) + alike)))


def inner_patterns(thing):
    """The patterns of which what could be a pattern is made, None if it can be none."""
    if not (isinstance(thing, tuple) and len(thing) > 0 and isinstance(thing[0], str)):
        return None
    head, inner = thing[0], thing[1:]
    if head == "word":
        return () if len(inner) == 1 and is_word(inner[0]) else None
    if head in ("any", "empty"):
        return () if len(inner) == 0 else None
    if head in ("then", "or"):
        return inner if len(inner) == 2 else None
    return inner if head == "again" and len(inner) == 1 else None


def told_pattern(pattern, leaves, follow):
    """Whether the pattern matches (), and with which leaves texts that it matches begin and end.

    Leaves are parts of the pattern that match one word. They are added to leaves, and those
    by which one may be followed to follow.
    """
    if pattern[0] in ("word", "any"):
        leaf = len(leaves)
        leaves.append(pattern)
        follow.append([])
        return False, [leaf], [leaf]
    if pattern[0] == "empty":
        return True, [], []
    empty, firsts, lasts = told_pattern(pattern[1], leaves, follow)
    if pattern[0] == "again":
        led_by(follow, lasts, firsts)
        return True, firsts, lasts
    also, heads, tails = told_pattern(pattern[2], leaves, follow)
    if pattern[0] == "or":
        return empty or also, firsts + heads, lasts + tails
    led_by(follow, lasts, heads)
    return empty and also, firsts + (heads if empty else []), tails + (lasts if also else [])


def led_by(follow, lasts, firsts):
    """Note that each of lasts may be followed by each of firsts."""
    for last in lasts:
        follow[last].extend(firsts)


def next_leaves(follow, firsts, read):
    """The leaves that may match the next word if the last one was matched by one of read."""
    if read == ():
        return firsts
    return sorted(set([leaf for last in read for leaf in follow[last]]))


def leaf_moves(leaves, due, letters, free):
    """The letters that may come next, each with the tuple of those leaves due that match it."""
    moves = []
    for letter, known in zip(letters, free):
        read = tuple([leaf for leaf in due if leaves[leaf] == ("word", letter) or (known and leaves[leaf] == ("any",))])
        if read:
            moves.append((letter, read))
    return moves
