"""How many start trees say texts of each length."""

from everytongue.erasing import is_trim_form
from everytongue.kinds import is_number
from everytongue.refusing import bound_count, capped, require
from everytongue.rings import ordered_parts
from everytongue.saying import row_words
from everytongue.treecounts import joined_count, kid_ends
from everytongue.trimming import live_flags

# An amount is a triple: how many trees there are without rings that say no word, up to the
# limit of counts; 1 if there is any tree, else 0; 1 if there is one with such a ring, else 0.
NONE = (0, 0, 0)
ONE = (1, 1, 0)
RING = (0, 1, 1)


def word_counts(form, most):
    """At n, from 0 to most, how many start trees say n words, None if endlessly many."""
    require(is_trim_form(form), "form")
    require(is_number(most), "most")
    tables = word_tables(form, most)
    counts = []
    for words in range(most + 1):
        amount = NONE
        for start in form[0][1]:
            amount = plus(amount, amount_at(tables[start], words))
        counts.append(None if amount[2] else amount[0])
    for count in counts:
        if count is not None:
            bound_count(count)
    return tuple(counts)


def plus(one, other):
    """The amount of what is one or the other."""
    return (capped(one[0] + other[0]), one[1] | other[1], one[2] | other[2])


def times(one, other):
    """The amount of pairs of the one and the other."""
    return (capped(one[0] * other[0]), one[1] & other[1], one[2] & other[1] | one[1] & other[2])


def word_tables(form, most):
    """For each sort the table of its trees, by words.

    A table has the counts, and, as the bits of numbers, for which lengths there are trees, and
    such with rings; then these bits in the opposite sequence.
    """
    made, _, said = form
    own = [row_words(row) for row in said[2]]
    ends = kid_ends(made[2])
    tables = [open_table() for _ in range(made[0])]
    joined = {kids: open_table() for kids in ends}
    joined.update({(sort,): table for sort, table in enumerate(tables)})
    parts, ring = silent_parts(made, own)
    cons = [[] for _ in range(made[0])]
    for con, (result, kids) in enumerate(made[2]):
        cons[result].append((own[con], kids))
    for words in range(most + 1):
        inner = {kids: inner_amount(joined[kids[:1]], joined[kids[1:]], words) for kids in ends if len(kids) > 1}
        for part in parts:
            amounts = [sort_amount(cons[sort], joined, inner, words) for sort in part]
            if ring[part[0]]:
                # All sorts of a ring have trees with as many words, or none has.
                amounts = [RING if any([amount[1] for amount in amounts]) else NONE for _ in part]
            for sort, amount in zip(part, amounts):
                add_amount(tables[sort], amount)
        for kids in ends:
            if len(kids) > 1:
                add_amount(joined[kids], ends_amount(kids, joined, inner, words))
    return tables


def open_table():
    """A table of nothing."""
    return [[], 0, 0, 0, 0]


def silent_parts(made, own):
    """The parts of sorts that lead to each other without words, kids' first; for each sort whether it is in a ring."""
    # The sorts that have trees of constructors without words have trees that say none.
    empty = live_flags((made[0], (), tuple([con for con, words in zip(made[2], own) if words == 0])))
    edges = [[] for _ in range(made[0])]
    for con, (result, kids) in enumerate(made[2]):
        for k, kid in enumerate(kids):
            if own[con] == 0 and all([empty[other] for other in kids[:k] + kids[k + 1:]]):
                edges[result].append(kid)
    ring = [False] * made[0]
    parts = ordered_parts(edges)
    for part in parts:
        for sort in part:
            ring[sort] = len(part) > 1 or sort in edges[sort]
    return parts, ring


def amount_at(table, words):
    """The amount of this length in a table; nothing if the table has not come so far."""
    if words >= len(table[0]):
        return NONE
    return (table[0][words], table[1] >> words & 1, table[2] >> words & 1)


def add_amount(table, amount):
    """Add the amount of the next length to the table."""
    words = len(table[0])
    table[0].append(amount[0])
    for k in (1, 2):
        table[k] |= amount[k] << words
        table[k + 2] = table[k + 2] << 1 | amount[k]


def inner_amount(one, other, words):
    """The amount of pairs with so many words in all of which both have some; tables have come to one word fewer."""
    count = joined_count(one[0][1:words], other[0][words - 1:0:-1])
    # The opposite sequence of bits begins with one word fewer.
    found = 1 if one[1] >> 1 & other[3] else 0
    ring = 1 if one[2] >> 1 & other[3] or one[1] >> 1 & other[4] else 0
    return (capped(count), found, ring)


def ends_amount(kids, joined, inner, words):
    """The amount of rows of trees of these sorts, not (), with so many words in all."""
    amount = amount_at(joined[kids[-1:]], words)
    for at in reversed(range(len(kids) - 1)):
        one, other = joined[kids[at:at + 1]], joined[kids[at + 1:]]
        told = times(amount_at(one, 0), amount)
        if words > 0:
            told = plus(told, times(amount_at(one, words), amount_at(other, 0)))
        amount = plus(told, inner[kids[at:]])
    return amount


def sort_amount(cons, joined, inner, words):
    """The amount of a sort's trees with so many words; cons has own words and kids of its constructors."""
    amount = NONE
    for own, kids in cons:
        if own > words or not kids:
            amount = plus(amount, ONE if own == words and not kids else NONE)
        elif own > 0:
            amount = plus(amount, amount_at(joined[kids], words - own))
        else:
            amount = plus(amount, ends_amount(kids, joined, inner, words))
    return amount
