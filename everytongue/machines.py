"""Machines: where texts lead, and machines of texts, of two machines and of pairs of neighbours."""

from everytongue.kinds import is_ascending, is_below, is_text, is_vocabulary
from everytongue.leastmachines import told_machine
from everytongue.machinechecker import is_machine
from everytongue.refusing import require


def led_to(machine, state, words):
    """The state to which words lead from this state, -1 if they lead nowhere."""
    require(is_machine(machine), "machine")
    require(is_below(state, machine[0]), "state")
    require(is_text(words), "words")
    return led_on(machine_moves(machine), state, words)


def takes(machine, words):
    """Whether the machine takes words."""
    require(is_machine(machine), "machine")
    require(is_text(words), "words")
    return led_on(machine_moves(machine), 0, words) in machine[1]


def text_machine(words):
    """The machine of the text words."""
    require(is_text(words), "words")
    return (len(words) + 1, (len(words),), word_rows(words))


def beginning_machine(words, vocabulary):
    """The machine that takes the texts that begin with words and go on with words of the vocabulary."""
    require(is_text(words), "words")
    require(is_vocabulary(vocabulary), "vocabulary")
    last = len(words)
    return (last + 1, (last,), word_rows(words) + tuple([(last, word, last) for word in vocabulary]))


def both(machine, other):
    """A machine that takes just the texts that both take."""
    require(is_machine(machine), "machine")
    require(is_machine(other), "other")
    ones, others = state_moves(machine), state_moves(other)
    return told_machine((0, 0), lambda pair: shared_moves(ones[pair[0]], others[pair[1]]),
                        lambda pair: pair[0] in machine[1] and pair[1] in other[1])


def without_pairs(vocabulary, pairs):
    """A machine that takes just the texts of the vocabulary's words without these pairs of neighbours."""
    require(is_vocabulary(vocabulary), "vocabulary")
    require(are_pairs(pairs), "pairs")
    barred = {pair: True for pair in pairs}
    # The state is the last word; at first there is none.
    return told_machine("", lambda last: [(word, word) for word in vocabulary if (last, word) not in barred],
                        lambda last: True)


def machine_moves(machine):
    """The state to which each state and word leads."""
    return {(state, word): further for state, word, further in machine[2]}


def led_on(moves, state, words):
    """The state to which words lead from this state, -1 if they lead nowhere."""
    for word in words:
        if state == -1:
            return -1
        state = moves.get((state, word), -1)
    return state


def word_rows(words):
    """The rows of the machine of a text."""
    return tuple([(k, word, k + 1) for k, word in enumerate(words)])


def state_moves(machine):
    """For each state the words that lead on from it, and where."""
    moves = [{} for _ in range(machine[0])]
    for state, word, further in machine[2]:
        moves[state][word] = further
    return moves


def shared_moves(one, other):
    """The words that lead on in both of the moves, and the pairs of states to which they lead."""
    return [(word, (further, other[word])) for word, further in one.items() if word in other]


def are_pairs(thing):
    """Whether thing is an ascending tuple of pairs of words."""
    if not (isinstance(thing, tuple) and all([is_text(pair) and len(pair) == 2 for pair in thing])):
        return False
    return is_ascending(thing)
