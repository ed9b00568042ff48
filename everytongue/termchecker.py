"""The checkers of closed linear terms and of tongues of functions."""

from everytongue.checkers import is_book
from everytongue.ftypes import LINE, is_type, leading_type, order_of
from everytongue.kinds import is_each
from everytongue.refusing import accept, require
from everytongue.tokens import scopes, term_ends, term_fault


def lets_term(thing):
    """Return the type of the closed linear term."""
    fault, ftype = told_term(thing)
    accept(fault)
    return ftype


def lets_functions(book, thing):
    """Return the greatest order of the types, 0 without sorts."""
    require(is_book(book), "book")
    accept(functions_fault(book, thing))
    return max([order_of(ftype) for ftype in thing[1]], default=0)


def closed_type(thing):
    """The type of a closed linear term, None for all else."""
    return told_term(thing)[1]


def is_closed(thing):
    """Whether thing is a closed linear term."""
    return closed_type(thing) is not None


def is_functions(book, thing):
    """Whether thing is a tongue of functions of the book."""
    return functions_fault(book, thing) is None


def told_term(thing):
    """The first entry of lets_term's list that applies, or None; then the type, or None."""
    fault = term_fault(thing)
    if fault is not None:
        return fault, None
    lambdas = scopes(thing)[1]
    for k, token in enumerate(thing):
        if token[0] == "var" and lambdas[k] == -1:
            return ("free", k), None
    misfit, ftype = fitted(thing, lambdas)
    if misfit != -1:
        return ("fit", misfit), None
    uses = [0] * len(thing)
    for place in lambdas:
        if place != -1:
            uses[place] += 1
    for k, token in enumerate(thing):
        if token[0] == "lam" and uses[k] != 1:
            return ("once", k), None
    return None, ftype


def fitted(term, lambdas):
    """The greatest place of a function that does not fit, or -1; then the type of the term."""
    ends = term_ends(term)
    types = [()] * len(term)
    for at in reversed(range(len(term))):
        token = term[at]
        if token[0] == "word":
            types[at] = LINE
        elif token[0] == "var":
            types[at] = term[lambdas[at]][1]
        elif token[0] == "lam":
            types[at] = (1,) + token[1] + types[at + 1]
        else:
            function, argument = types[at + 1], types[ends[at + 1]]
            if not leads_from(function, argument):
                return at, ()
            types[at] = function[1 + len(argument):]
    return -1, types[0]


def leads_from(ftype, argument):
    """Whether the type leads from this argument's type to some type."""
    return ftype[:1 + len(argument)] == (1,) + argument


def functions_fault(book, thing):
    """The first entry of lets_functions's list that applies to thing, or None."""
    if not (isinstance(thing, tuple) and len(thing) == 3 and thing[0] == "functions"):
        return ("shape", -1)
    _, types, terms = thing
    if not are_types(book, types):
        return ("types", -1)
    if not (isinstance(terms, tuple) and len(terms) == len(book[2])):
        return ("terms", -1)
    for k, (result, kids) in enumerate(book[2]):
        ftype = closed_type(terms[k])
        if ftype is None:
            return ("term", k)
        if ftype != leading_type([types[kid] for kid in kids], types[result]):
            return ("type", k)
    return None


def are_types(book, thing):
    """Whether thing has a type for each sort, the line type for start sorts."""
    if not (is_each(thing, is_type) and len(thing) == book[0]):
        return False
    return all([thing[start] == LINE for start in book[1]])
