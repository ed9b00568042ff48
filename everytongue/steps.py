"""Steps in terms."""

from everytongue.kinds import is_number
from everytongue.refusing import require
from everytongue.termchecker import is_closed
from everytongue.tokens import APP, scopes, term_ends


def step_places(term):
    """The places of all functions in use that are lambdas."""
    require(is_closed(term), "term")
    return tuple(open_places(term))


def step_at(term, at):
    """The term after the step at the place at."""
    require(is_closed(term), "term")
    require(is_number(at) and at in open_places(term), "at")
    ends = term_ends(term)
    depths, lambdas = scopes(term)
    middle = ends[at + 1]
    argument = term[middle:ends[at]]
    body = []
    for place in range(at + 2, middle):
        inner = depths[place] - depths[at + 2]
        token = term[place]
        if lambdas[place] == at + 1:
            body.extend(raised_term(argument, inner))
        elif token[0] == "var" and token[1] > inner:
            # Its lambda is further out than the one that goes away.
            body.append(("var", token[1] - 1))
        else:
            body.append(token)
    return term[:at] + tuple(body) + term[ends[at]:]


def done_term(term):
    """The term to which all sequences of steps come, and how many steps they have."""
    require(is_closed(term), "term")
    return finished(term)


def open_places(term):
    """The places at which a step can be taken."""
    return [at for at, token in enumerate(term) if token == APP and term[at + 1][0] == "lam"]


def raised_term(term, by):
    """The term with the numbers of its free variables raised."""
    raised = []
    for token, place in zip(term, scopes(term)[1]):
        if token[0] == "var" and place == -1:
            raised.append(("var", token[1] + by))
        else:
            raised.append(token)
    return raised


def finished(term):
    """The term without steps, and how many steps lead to it; term is known to be closed and linear.

    Since each variable stands once, each place is gone through once: an argument
    waits till the way comes to the variable in whose place it is put.
    """
    ends = term_ends(term)
    lambdas = scopes(term)[1]
    put = {}
    depth_of = {}
    tokens = []
    todo = [(0, 0)]
    while todo:
        at, depth = todo.pop()
        waiting = []
        while term[at][0] in ("app", "lam") or lambdas[at] in put:
            if term[at] == APP:
                waiting.append(ends[at + 1])
                at += 1
            elif term[at][0] == "var":
                at = put[lambdas[at]]
            elif waiting:
                put[at] = waiting.pop()
                at += 1
            else:
                depth_of[at] = depth
                depth += 1
                tokens.append(term[at])
                at += 1
        tokens.extend([APP] * len(waiting))
        tokens.append(term[at] if lambdas[at] == -1 else ("var", depth - 1 - depth_of[lambdas[at]]))
        todo.extend([(argument, depth) for argument in waiting])
    return tuple(tokens), len(put)
