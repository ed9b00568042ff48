"""The links of terms."""

from everytongue.ftypes import door_count, door_signs
from everytongue.kinds import is_each, is_number, is_text
from everytongue.refusing import require
from everytongue.termchecker import closed_type
from everytongue.tokens import scopes, term_ends


def term_links(term):
    """The ascending tuple of the links from all positive doors."""
    ftype = closed_type(term)
    require(ftype is not None, "term")
    return links_of(term, ftype)


def term_shape(links):
    """The links without their words."""
    require(is_each(links, is_link), "links")
    return tuple([(first, last) for first, last, _ in links])


def is_link(thing):
    """Whether thing is a triple of two numbers and a text."""
    if not (isinstance(thing, tuple) and len(thing) == 3):
        return False
    return is_number(thing[0]) and is_number(thing[1]) and is_text(thing[2])


def links_of(term, ftype):
    """The links of a closed linear term of this type."""
    ends = term_ends(term)
    lambdas = scopes(term)[1]
    counts = passed_counts(term, ends, lambdas)
    wiring = (term, counts, lambdas, variables_of(lambdas), ends, parents_in(term, ends))
    links = []
    for door, positive in enumerate(door_signs(ftype)):
        if positive:
            last, words = followed(wiring, door)
            links.append((door, last, words))
    return tuple(links)


def passed_counts(term, ends, lambdas):
    """For each lambda how many doors its type has, for each ("app",) how many the argument's."""
    doors = [0] * len(term)
    counts = [0] * len(term)
    for at in reversed(range(len(term))):
        token = term[at]
        if token[0] == "word":
            doors[at] = 2
        elif token[0] == "var":
            doors[at] = door_count(term[lambdas[at]][1])
        elif token[0] == "lam":
            counts[at] = door_count(token[1])
            doors[at] = counts[at] + doors[at + 1]
        else:
            counts[at] = doors[ends[at + 1]]
            doors[at] = doors[at + 1] - counts[at]
    return counts


def variables_of(lambdas):
    """For each lambda's place that of its variable."""
    variables = [-1] * len(lambdas)
    for at, place in enumerate(lambdas):
        if place != -1:
            variables[place] = at
    return variables


def parents_in(term, ends):
    """For each place that of the token for which a term begins there, -1 for the first one."""
    parents = [-1] * len(term)
    for at, token in enumerate(term):
        if token[0] in ("lam", "app"):
            parents[at + 1] = at
        if token[0] == "app":
            parents[ends[at + 1]] = at
    return parents


def followed(wiring, door):
    """The door at which the way ends that begins at this one, and the words passed."""
    term = wiring[0]
    words = []
    at, inward = 0, True
    while inward or at != 0:
        if inward and term[at][0] == "word":
            words.append(term[at][1])
        if inward:
            at, door, inward = turn_in(wiring, at, door)
        else:
            at, door, inward = turn_out(wiring, at, door)
    return door, tuple(words)


def turn_in(wiring, at, door):
    """Where a way goes on that goes into the term at the place at by this door."""
    term, counts, lambdas, variables, _, _ = wiring
    if term[at][0] == "word":
        return at, 0, False
    if term[at][0] == "var":
        return lambdas[at], door, False
    if term[at][0] == "app":
        return at + 1, door + counts[at], True
    if door < counts[at]:
        return variables[at], door, False
    return at + 1, door - counts[at], True


def turn_out(wiring, at, door):
    """Where a way goes on that goes out of the term at the place at by this door."""
    term, counts, _, _, ends, parents = wiring
    around = parents[at]
    if term[around][0] == "lam":
        return around, door + counts[around], False
    if at != around + 1:
        return around + 1, door, True
    if door < counts[around]:
        return ends[around + 1], door, True
    return around, door - counts[around], False
