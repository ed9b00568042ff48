"""The links of terms used on arguments, and the shapes of trees."""

from everytongue.checkers import is_book, is_con
from everytongue.closing import closed_states
from everytongue.ftypes import door_count, door_signs, leading_type
from everytongue.kinds import is_each
from everytongue.refusing import require
from everytongue.termchecker import is_functions
from everytongue.wires import is_link, links_of


def plugged(book, functions, con, kids):
    """The links that con's term makes of these links of its kids."""
    require(is_book(book), "book")
    require(is_functions(book, functions), "functions")
    require(is_con(book, con), "con")
    types = [functions[1][kid] for kid in book[2][con][1]]
    require(are_kid_links(types, kids), "kids")
    shapes = [tuple([(first, last) for first, last, _ in links]) for links in kids]
    ways = plugged_ways(wired_con(book, functions, con), shapes)
    return tuple([(first, last, piece_words(kids, piece)) for first, last, piece in ways])


def term_shapes(book, functions):
    """For each sort the ascending tuple of the shapes of its trees."""
    require(is_book(book), "book")
    require(is_functions(book, functions), "functions")
    return tuple([tuple(row) for row in shapes_and_ways(book, functions)[0]])


def are_kid_links(types, thing):
    """Whether thing has, for each of the types, an ascending tuple of links that fit."""
    if not (isinstance(thing, tuple) and len(thing) == len(types)):
        return False
    return all([are_links(ftype, links) for ftype, links in zip(types, thing)])


def are_links(ftype, thing):
    """Whether thing has, ascending, just one link for each door of the type."""
    if not is_each(thing, is_link):
        return False
    signs = door_signs(ftype)
    froms = [door for door, positive in enumerate(signs) if positive]
    others = [door for door, positive in enumerate(signs) if not positive]
    if [first for first, _, _ in thing] != froms:
        return False
    return sorted([last for _, last, _ in thing]) == others


def wired_con(book, functions, con):
    """The links of con's term, and where its kids' doors and the result's begin among its doors."""
    result, kids = book[2][con]
    types = [functions[1][kid] for kid in kids]
    firsts = [0]
    for ftype in types:
        firsts.append(firsts[-1] + door_count(ftype))
    return links_of(functions[2][con], leading_type(types, functions[1][result])), firsts


def plugged_ways(wired, shapes):
    """For each positive door of the result a triple: this door, that at which the way ends, a piece.

    In the piece slots, of a kid and a place in its shape, stand for the links of the kids.
    """
    links, firsts = wired
    onward = {first: (last, words) for first, last, words in links}
    jumps = {}
    for kid, shape in enumerate(shapes):
        for place, (first, last) in enumerate(shape):
            jumps[firsts[kid] + first] = ((kid, place), firsts[kid] + last)
    result = firsts[-1]
    ways = []
    for first, door, words in links:
        if first < result:
            continue
        piece = list(words)
        while door < result:
            slot, further = jumps[door]
            door, words = onward[further]
            piece.append(slot)
            piece.extend(words)
        ways.append((first - result, door - result, tuple(piece)))
    return ways


def piece_words(kids, piece):
    """The words of a piece, with the words of the kids' links in the place of the slots."""
    words = []
    for item in piece:
        if isinstance(item, str):
            words.append(item)
        else:
            words.extend(kids[item[0]][item[1]][2])
    return tuple(words)


def shapes_and_ways(book, functions):
    """The shapes of each sort's trees, and the ways in which they are made, as closed_states tells."""
    wired = [wired_con(book, functions, con) for con in range(len(book[2]))]
    return closed_states(book, lambda con, shapes: made_shape(wired[con], shapes))


def made_shape(wired, shapes):
    """The shape that a constructor makes of those of its kids."""
    return tuple([(first, last) for first, last, _ in plugged_ways(wired, shapes)])
