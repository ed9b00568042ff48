"""The checker of what alike tells."""

from everytongue.alike import is_parted
from everytongue.checkers import is_book, is_start_tree
from everytongue.closing import choices
from everytongue.common import both_form
from everytongue.growthchecker import is_way, ring_fault
from everytongue.kinds import is_each, is_quotient, is_tuple
from everytongue.listing import is_unlike, made_pair, pair_plans
from everytongue.refusing import accept, require
from everytongue.rings import finish_order
from everytongue.spaces import adds_up
from everytongue.tonguechecker import is_tongue
from everytongue.twists import is_twist
from everytongue.within import is_uneven
from everytongue.withinchecker import pairs_fault


def lets_alike(book, one, other, twist, thing):
    """Return the first element of what alike may tell."""
    require(is_book(book), "book")
    require(is_tongue(book, one), "one")
    require(is_tongue(book, other), "other")
    require(is_twist(twist), "twist")
    accept(alike_fault(book, one, other, twist, thing))
    return thing[0]


def alike_fault(book, one, other, twist, thing):
    """The first entry of lets_alike's list that applies to thing, or None."""
    if not (isinstance(thing, tuple) and len(thing) == 2):
        return ("shape", -1)
    if thing[0] == "part":
        parted = is_start_tree(book, thing[1]) and is_parted(book, one, other, twist, thing[1])
        return None if parted else ("tree", -1)
    if thing[0] != "alike":
        return ("shape", -1)
    if not (is_each(thing[1], is_tuple) and len(thing[1]) == 3):
        return ("paper", -1)
    pairs, base, sums = thing[1]
    fault = pairs_fault(book, one, other, lambda pair: is_uneven(one, other, pair), pairs)
    if fault is not None:
        return fault
    common = both_form(book, one, other)
    fault = base_fault(common[0], base)
    if fault is not None:
        return fault
    plans = pair_plans(common, twist)
    found = base_pairs(common[0], plans, base)
    return sums_fault(common[0], plans, found, sums) or unlike_fault(common[0], found)


def base_fault(made, thing):
    """The first entry of the list that applies to the base, or None."""
    if not (is_each(thing, is_tuple) and len(thing) == made[0]):
        return ("base", -1)
    for sort, rows in enumerate(thing):
        if not all([is_way(made, thing, sort, row) for row in rows]):
            return ("base", sort)
    return ring_fault(made, thing)


def base_pairs(made, plans, base):
    """For each sort the pair vectors of the trees of a base without rings."""
    keys = [(sort, place) for sort, rows in enumerate(base) for place in range(len(rows))]
    numbers = {key: number for number, key in enumerate(keys)}
    below = []
    for sort, place in keys:
        con, places = base[sort][place]
        below.append([numbers[key] for key in zip(made[2][con][1], places)])
    pairs = [((), ())] * len(keys)
    for number in finish_order(below):
        sort, place = keys[number]
        pairs[number] = made_pair(plans[base[sort][place][0]], [pairs[kid] for kid in below[number]])
    return [[pairs[numbers[(sort, place)]] for place in range(len(rows))] for sort, rows in enumerate(base)]


def sums_fault(made, plans, found, thing):
    """The first entry of the list that applies to the sums, or None; found has the base's pair vectors."""
    if len(thing) != len(made[2]):
        return ("sums", -1)
    for con, (result, kids) in enumerate(made[2]):
        many = 1
        for kid in kids:
            many *= len(found[kid])
        if not are_sums(many, len(found[result]), thing[con]):
            return ("sums", con)
        taken = [one + other for one, other in found[result]]
        for pairs, parts in zip(choices([found[kid] for kid in kids]), thing[con]):
            pair = made_pair(plans[con], pairs)
            if not adds_up(taken, parts, pair[0] + pair[1]):
                return ("sum", con)
    return None


def are_sums(many, size, thing):
    """Whether thing is a tuple of so many tuples of quotients, each of this size."""
    if not (is_each(thing, is_tuple) and len(thing) == many):
        return False
    return all([is_each(parts, is_quotient) and len(parts) == size for parts in thing])


def unlike_fault(made, found):
    """The first start sort with a tree in the base whose two texts are unlike, or None."""
    for start in made[1]:
        if any([is_unlike(pair) for pair in found[start]]):
            return ("unlike", start)
    return None
