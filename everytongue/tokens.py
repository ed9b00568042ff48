"""Tokens, and where the parts of terms stand."""

from everytongue.ftypes import is_type
from everytongue.kinds import is_number, is_word

APP = ("app",)


def is_token(thing):
    """Whether thing is a token."""
    if not (isinstance(thing, tuple) and len(thing) in (1, 2)):
        return False
    if len(thing) == 1:
        return thing[0] == "app"
    if thing[0] == "word":
        return is_word(thing[1])
    if thing[0] == "var":
        return is_number(thing[1])
    return thing[0] == "lam" and is_type(thing[1])


def arity(token):
    """How many terms follow the token."""
    if token[0] == "app":
        return 2
    return 1 if token[0] == "lam" else 0


def term_fault(thing):
    """The first entry of lets_term's list by which thing is no term, or None."""
    if not isinstance(thing, tuple):
        return ("shape", -1)
    wanted = 1
    for k, token in enumerate(thing):
        if wanted == 0:
            return ("more", k)
        if not is_token(token):
            return ("token", k)
        wanted += arity(token) - 1
    if wanted > 0:
        return ("end", len(thing))
    return None


def term_ends(term):
    """For each place the place behind the term that begins there."""
    ends = [0] * len(term)
    for at in reversed(range(len(term))):
        end = at + 1
        for _ in range(arity(term[at])):
            end = ends[end]
        ends[at] = end
    return ends


def scopes(term):
    """For each place how many lambdas are around it; for each variable's place that of its lambda.

    The latter is -1 where no variable stands, or one without its lambda.
    """
    depths = []
    lambdas = []
    around = []
    todo = [0]
    for at, token in enumerate(term):
        depth = todo.pop()
        del around[depth:]
        depths.append(depth)
        lambdas.append(-1)
        if token[0] == "lam":
            around.append(at)
            todo.append(depth + 1)
        elif token[0] == "app":
            todo.extend([depth, depth])
        elif token[0] == "var" and token[1] < depth:
            lambdas[at] = around[depth - 1 - token[1]]
    return depths, lambdas
