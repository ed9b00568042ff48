"""How texts that begin sentences go on."""

from everytongue.checkers import is_book
from everytongue.closing import grown_book
from everytongue.items import all_items
from everytongue.kinds import is_text
from everytongue.machines import beginning_machine, machine_moves, word_rows
from everytongue.making import any_form
from everytongue.meets import met_form, met_ways, taken_starts
from everytongue.refusing import require
from everytongue.shortest import least_start, short_roots, short_text
from everytongue.speaking import words_in
from everytongue.tonguechecker import is_tongue


def sure_beginning(book, tongue, words):
    """How many words, from the first one on, begin a sentence; None if there are no sentences."""
    require(is_book(book), "book")
    require(is_tongue(book, tongue), "tongue")
    require(is_text(words), "words")
    return sure_words(any_form(book, tongue), words)


def next_words(book, tongue, words):
    """The ascending tuple of the words that may come next, and whether words is a sentence."""
    require(is_book(book), "book")
    require(is_tongue(book, tongue), "tongue")
    require(is_text(words), "words")
    return words_next(any_form(book, tongue), words)


def completion(book, tongue, words):
    """A text of the fewest words that makes a sentence behind words; None if there is none."""
    require(is_book(book), "book")
    require(is_tongue(book, tongue), "tongue")
    require(is_text(words), "words")
    form = any_form(book, tongue)
    begun = met_form(form, beginning_machine(words, own_vocabulary(form)))
    found = short_roots(begun)
    start = least_start(begun, found)
    if start is None:
        return None
    return short_text(begun, found, start)[len(words):]


def own_vocabulary(form):
    """The ascending tuple of the words in the form's rows."""
    return tuple(sorted(set(words_in(form[2][2]))))


def sure_words(form, words):
    """How many words, from the first one on, begin a sentence of the form; None if there are no sentences."""
    # Its book is trimmed.
    if form[0][0] == 0:
        return None
    low, high = 0, len(words) + 1
    middle = len(words)
    while high - low > 1:
        if begins(form, words[:middle]):
            low = middle
        else:
            high = middle
        middle = (low + high) // 2
    return low


def begins(form, words):
    """Whether words begin a sentence of the form."""
    machine = beginning_machine(words, own_vocabulary(form))
    return len(taken_starts(form[0], all_items(form, machine), machine)) > 0


def words_next(form, words):
    """What next_words returns, for the form of the tongue."""
    last = len(words)
    vocabulary = own_vocabulary(form)
    # Any word leads on from the last state of the text, and from there on any word.
    rows = word_rows(words) + tuple([(state, word, last + 1) for state in (last, last + 1) for word in vocabulary])
    machine = (last + 2, (last, last + 1), rows)
    moves = machine_moves(machine)
    starts, ways_of = met_ways(form, machine)
    further = [(sort, item) for sort, item in starts if item[0][1] == last + 1]
    told = grown_book(further, lambda key: words_at(moves, last, key, ways_of(key)))[2]
    found = tuple(sorted(set([word for row in told for word in row])))
    return found, len(further) < len(starts)


def words_at(moves, last, key, ways):
    """The ways with, in the place of the row, its words that are said from the state last on."""
    found = []
    for con, kids, row in ways:
        words = []
        for (state, _), piece in zip(key[1], row):
            for item in piece:
                if not isinstance(item, str):
                    state = kids[item[0]][1][item[1]][1]
                    continue
                if state == last:
                    words.append(item)
                state = moves[(state, item)]
        found.append((con, kids, tuple(words)))
    return found
