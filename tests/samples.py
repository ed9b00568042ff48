"""Books, tongues and slow, plain ways to tell what the program should return."""

import itertools
import random

NEST = (2, (0,), ((0, (1,)), (1, (1,)), (1, ())))
SPLIT = ("pieces", (1, 2), ((((0, 0), (0, 1)),), (("a", (0, 0)), ((0, 1), "b")), ((), ())))
WALK = ("walker", 1, ((0, 0, 0, (), 1, 0), (0, 0, 1, (), 0, 0), (0, 1, 0, ("a",), 1, 0),
                      (0, 1, 1, ("b",), 0, 0), (0, 2, 0, (), 0, 0)))
MEAN = ("functions", ((1, 0, 0), (1, 0, 0)),
        ((("lam", (1, 0, 0)), ("var", 0)),
         (("lam", (1, 0, 0)), ("lam", (0,)), ("app",), ("word", "a"), ("app",), ("var", 1),
          ("app",), ("word", "b"), ("var", 0)),
         (("lam", (0,)), ("var", 0))))
PAIRS = (1, (0,), ((0, ()), (0, (0, 0))))
DEAD = (3, (0, 2), ((0, (1,)), (1, ()), (1, (2, 1))))
EMPTY = (0, (), ())
FOUR = (2, (0, 1), ((0, (1, 0, 1, 1)), (0, ()), (1, ()), (1, (1, 1))))
NO_STARTS = (2, (), ((0, (1,)), (1, ())))
NO_CONS = (2, (0,), ())
BOOKS = (NEST, PAIRS, DEAD, EMPTY, FOUR, NO_STARTS, NO_CONS)

# Things that are not what they nearly are.
ODD = (None, True, False, "", "a", -1, (), [], (None,), ((),), [0], (True,), ("pieces",), 10 ** 59)

# Parameters that are not as stated, with NEST and its tongues.
BAD_BOOKS = (None, (2, (0,)), (2, (2,), NEST[2]), [2, (0,), NEST[2]], (2, (False,), NEST[2]))
BAD_SORTS = (2, -1, True, None, (0,), "0", 10 ** 59)
BAD_TREES = ((), (0,), (0, 1), (2, 2), (3,), (True, 2), [0, 2], None, "02", (0, -1), 2, (0, (2,)))
BAD_PIECES = (None, ("pieces", (1, 2)), ("pieces", (1, True), SPLIT[2]), ["pieces", (1, 2), SPLIT[2]],
              ("pieces", (1, 2), SPLIT[2][:2]), ("functions", (1, 2), SPLIT[2]), ("pieces", (2, 2), SPLIT[2]))
BAD_FUNCTIONS = (None, MEAN[:2], ("functions", ((1, 0, 0), (True, 0, 0)), MEAN[2]), list(MEAN), ("pieces",) + MEAN[1:],
                 ("functions", ((1, 0, 0), (0,)), MEAN[2]), ("functions", MEAN[1], MEAN[2][:2]))
BAD_TERMS = (None, (), [("word", "w")], (("app",),), (("var", 0),), (("lam", (0,)), ("word", "w")),
             (("word", "w"),) * 2, (("app",), ("word", "w"), ("word", "w")), ("word", "w"), (("word", ""),),
             (("lam", (1, 0, 0)), ("lam", (1, 0, 0)), ("var", 0)))


def trees_by_size(book, most):
    """Per sort, per size up to most, all trees, in no particular sequence."""
    found = [[[] for _ in range(most + 1)] for _ in range(book[0])]
    for size in range(1, most + 1):
        for con, (result, kids) in enumerate(book[2]):
            for sizes in splits(size - 1, len(kids)):
                rows = [found[kid][part] for kid, part in zip(kids, sizes)]
                for row in itertools.product(*rows):
                    found[result][size].append((con,) + sum(row, ()))
    return found


def splits(total, parts):
    """All tuples of so many integers of at least 1 with this sum."""
    if parts == 0:
        return [()] if total == 0 else []
    return [(first,) + rest for first in range(1, total + 1) for rest in splits(total - first, parts - 1)]


def trees_of(book, sort, most):
    """All trees of the sort with at most so many nodes, in order."""
    rows = trees_by_size(book, most)[sort]
    return sorted([tree for row in rows for tree in row], key=lambda tree: slow_key(book, tree))


def start_trees(book, most):
    """All start trees with at most so many nodes, in order."""
    rows = trees_by_size(book, most)
    found = [tree for start in book[1] for row in rows[start] for tree in row]
    return sorted(found, key=lambda tree: slow_key(book, tree))


def slow_key(book, tree):
    """The order of [4], word for word: size, root, sizes of kids, kids."""
    kids = slow_kids(book, tree)
    return (len(tree), tree[0], tuple([len(kid) for kid in kids]), tuple([slow_key(book, kid) for kid in kids]))


def slow_parse(book, tree, at):
    """The place behind the tree that begins at this place."""
    end = at + 1
    for _ in book[2][tree[at]][1]:
        end = slow_parse(book, tree, end)
    return end


def slow_kids(book, tree):
    """The trees of the root's kids."""
    kids = []
    at = 1
    for _ in book[2][tree[0]][1]:
        end = slow_parse(book, tree, at)
        kids.append(tree[at:end])
        at = end
    return kids


def slow_nodes(book, tree):
    """Each node's tree, by place."""
    return [tree[at:slow_parse(book, tree, at)] for at in range(len(tree))]


def slow_texts(book, pieces, tree):
    """The texts that a tree says, kid by kid."""
    kids = [slow_texts(book, pieces, kid) for kid in slow_kids(book, tree)]
    row = []
    for piece in pieces[2][tree[0]]:
        text = ()
        for item in piece:
            text += (item,) if isinstance(item, str) else kids[item[0]][item[1]]
        row.append(text)
    return tuple(row)


def random_book(rng, sorts=3, cons=6, most_kids=3):
    """Any book; often some of its sorts have no trees, or are not used."""
    size = rng.randint(1, sorts)
    starts = tuple(sorted(rng.sample(range(size), rng.randint(0, size))))
    rows = []
    for _ in range(rng.randint(0, cons)):
        kids = tuple([rng.randrange(size) for _ in range(rng.choice([0, 0, 1, 1, 2, most_kids]))])
        rows.append((rng.randrange(size), kids))
    return (size, starts, tuple(rows))


def random_pieces(rng, book, width=3, words=("a", "b", "c")):
    """Any tongue of the book in pieces."""
    widths = tuple([1 if sort in book[1] else rng.randint(1, width) for sort in range(book[0])])
    rows = []
    for result, kids in book[2]:
        row = [[] for _ in range(widths[result])]
        for k, kid in enumerate(kids):
            for piece in range(widths[kid]):
                rng.choice(row).append((k, piece))
        for piece in row:
            rng.shuffle(piece)
            for _ in range(rng.choice([0, 0, 1, 2])):
                piece.insert(rng.randint(0, len(piece)), rng.choice(words))
        rows.append(tuple([tuple(piece) for piece in row]))
    return ("pieces", widths, tuple(rows))


def random_tongues(seed, many, **more):
    """Books with a tongue in pieces each."""
    rng = random.Random(seed)
    for _ in range(many):
        book = random_book(rng)
        yield book, random_pieces(rng, book, **more)


class NoTerm(Exception):
    """A random choice that led nowhere."""


TYPES = ((1, 0, 0), (1, 1, 0, 0, 1, 0, 0), (1, 1, 1, 0, 0, 1, 0, 0, 1, 0, 0), (1, 1, 0, 0, 1, 1, 0, 0, 1, 0, 0))


def random_term(rng, ftype, tries=400):
    """Any closed linear term of the type, often with steps in it."""
    for _ in range(tries):
        try:
            return grow(rng, [], ftype, [rng.randint(3, 20)])
        except NoTerm:
            continue
    raise NoTerm


def split_type(ftype):
    """The argument's type and that of the result."""
    wanted, end = 1, 1
    while wanted:
        wanted += 2 * ftype[end] - 1
        end += 1
    return ftype[1:end], ftype[end:]


def grow(rng, around, ftype, budget):
    """A term of the type that uses each variable of around, a list of lambdas' types or None, once."""
    budget[0] -= 1
    free = [k for k, kind in enumerate(around) if kind is not None]
    if budget[0] < -30:
        raise NoTerm
    if len(free) == 1 and around[free[0]] == ftype and rng.random() < 0.7:
        return (("var", len(around) - 1 - free[0]),)
    if not free and ftype == (1, 0, 0) and rng.random() < 0.3:
        return (("word", rng.choice("abc")),)
    if budget[0] > 0 and rng.random() < 0.45:
        kind = rng.choice(TYPES + ((0,),))
        one, other = deal(rng, around)
        return (("app",),) + lam(rng, one, kind, ftype, budget) + grow(rng, other, kind, budget)
    if ftype != (0,):
        kind, result = split_type(ftype)
        return lam(rng, around, kind, result, budget)
    if budget[0] > 0 and rng.random() < 0.4:
        return (("app",), ("word", rng.choice("abc"))) + grow(rng, around, ftype, budget)
    if not free:
        raise NoTerm
    return headed(rng, around, rng.choice(free), budget)


def lam(rng, around, kind, result, budget):
    """A lambda whose body uses around and its own variable."""
    return (("lam", kind),) + grow(rng, around + [kind], result, budget)


def deal(rng, around):
    """The variables dealt out to two terms."""
    one = [kind if rng.random() < 0.5 else None for kind in around]
    return one, [kind if mine is None else None for kind, mine in zip(around, one)]


def headed(rng, around, head, budget):
    """A variable used on as many arguments as it takes."""
    rest = [None if k == head else kind for k, kind in enumerate(around)]
    kind = around[head]
    kinds = []
    while kind != (0,):
        part, kind = split_type(kind)
        kinds.append(part)
    tokens = (("var", len(around) - 1 - head),)
    for k, part in enumerate(kinds):
        one, rest = deal(rng, rest) if k + 1 < len(kinds) else (rest, [None] * len(rest))
        tokens = tokens + grow(rng, one, part, budget)
    if not kinds and any(kind is not None for kind in rest):
        raise NoTerm
    return (("app",),) * len(kinds) + tokens


def random_functions(rng, book):
    """Any tongue of functions of the book; NoTerm if none is found."""
    types = tuple([(1, 0, 0) if sort in book[1] else rng.choice(TYPES) for sort in range(book[0])])
    terms = []
    for result, kids in book[2]:
        ftype = types[result]
        for kid in reversed(kids):
            ftype = (1,) + types[kid] + ftype
        terms.append(random_term(rng, ftype))
    return ("functions", types, tuple(terms))


def function_samples(seed, many):
    """Books with a tongue of functions each."""
    rng = random.Random(seed)
    found = 0
    while found < many:
        book = random_book(rng, most_kids=2)
        try:
            functions = random_functions(rng, book)
        except NoTerm:
            continue
        found += 1
        yield book, functions


def worth(term):
    """The worth of a term, as text or as function of Python, told from [6]."""
    value, end = worth_at(term, 0, ())
    assert end == len(term)
    return value


def worth_at(term, at, values):
    """The worth of the term that begins at this place, and the place behind it."""
    token = term[at]
    if token[0] == "word":
        return (lambda text: (token[1],) + text), at + 1
    if token[0] == "var":
        return values[-1 - token[1]], at + 1
    if token[0] == "lam":
        end = worth_end(term, at)
        return (lambda value: worth_at(term, at + 1, values + (value,))[0]), end
    function, middle = worth_at(term, at + 1, values)
    argument, end = worth_at(term, middle, values)
    return function(argument), end


def worth_end(term, at):
    """The place behind the term that begins at this place."""
    many = {"word": 0, "var": 0, "lam": 1, "app": 2}[term[at][0]]
    end = at + 1
    for _ in range(many):
        end = worth_end(term, end)
    return end


def power_book(many):
    """A book with 10 ** many start trees: a sort with ten, squares of it, and their product."""
    cons = [(0, ())] * 10
    levels = 0
    while 2 ** (levels + 1) <= many:
        levels += 1
        cons.append((levels, (levels - 1,) * 2))
    sorts = levels + 1
    cons.append((sorts, ()))
    for level in range(levels + 1):
        if many >> level & 1:
            cons.append((sorts + 1, (level, sorts)))
            sorts += 1
    return (sorts + 1, (sorts,), tuple(cons))


def nines_book(many):
    """A book with 10 ** many - 1 start trees."""
    # Sort 2 k has 10 ** n, sort 2 k + 1 one fewer, n being the first figures of many.
    cons = [(0, ())] * 10 + [(1, ())] * 9
    sorts, number = 2, 1
    for figure in bin(many)[3:]:
        cons.extend([(sorts, (sorts - 2,) * 2), (sorts + 1, (sorts - 1, sorts - 2)), (sorts + 1, (sorts - 1,))])
        sorts, number = sorts + 2, 2 * number
        if figure == "1":
            cons.extend([(sorts, (sorts - 2,))] * 10 + [(sorts + 1, (sorts - 1,))] * 10)
            cons.extend([(sorts + 1, ())] * 9)
            sorts, number = sorts + 2, number + 1
    assert number == many
    return (sorts, (sorts - 1,), tuple(cons))


def silent_tongue(book, word=()):
    """The tongue in pieces of width 1 that puts together what kids say; constructors without kids say word."""
    rows = tuple([(tuple([(kid, 0) for kid in range(len(kids))]) if kids else word,) for _, kids in book[2]])
    return ("pieces", (1,) * book[0], rows)
