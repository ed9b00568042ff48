"""Walkers, webs and tongues of all ways, and slow, plain ways to tell what they say."""

import random

from everytongue.givenfunctions import functions_of
from everytongue.givenwalkers import walker_of
from everytongue.givenwebs import webs_of
from samples import (BAD_FUNCTIONS, BAD_PIECES, DEAD, EMPTY, FOUR, NEST, NO_CONS, NO_STARTS, NoTerm, PAIRS, SPLIT, WALK,
                     random_book, random_functions, random_pieces, slow_kids, slow_parse, slow_texts, worth)

NET = ("webs", (2, 2), ((2, (0, 1), (), ((0, 1),)), (4, (0, 1), ((0, 2, ("a",)), (3, 1, ("b",))), ((2, 3),)),
                        (2, (0, 1), ((0, 1, ()),), ())))
HALT = ("walker", 1, ((0, 0, 0, (), 1, 0), (0, 0, 1, (), 0, 0), (0, 2, 0, (), 0, 0)))

# Tongues of NEST that are not as stated.
BAD_WALKERS = (None, WALK[:2], list(WALK), ("walker", True, WALK[2]), ("walker", 0, ()), ("walker", 1, WALK[2][::-1]),
               ("walker", 1, WALK[2] + ((0, 3, 0, (), 0, 0),)), ("webs",) + WALK[1:], SPLIT)
BAD_WEBS = (None, NET[:2], list(NET), ("webs", (2, True), NET[2]), ("webs", (1, 2), NET[2]), ("webs", (2, 2), NET[2][:2]),
            ("webs", (2, 2), NET[2][:2] + ((2, (0, 1), ((0, 0, ()),), ()),)), ("walker",) + NET[1:], WALK)
BAD_TONGUES = BAD_PIECES + BAD_FUNCTIONS + BAD_WALKERS[:-1] + BAD_WEBS[:-1] + ((), "pieces", (("pieces",),), 0)
BAD_TEXTS = (None, "a", ["a"], ("",), ("a", 1), ("a b",), (("a",),), True, ("it's",), ("x" * 17,))

# Forms over NEST that are not as stated, and machines.
BAD_FORMS = (None, (), (NEST, (0, 1, 2)), (NEST, (0, 1), SPLIT), (NEST, (0, 1, True), SPLIT), [NEST, (0, 1, 2), SPLIT],
             (None, (0, 1, 2), SPLIT), (NEST, (0, 1, 2), None), (NEST, (0, 1, 1), SPLIT), (NEST, [0, 1, 2], SPLIT))
MACHINE = (3, (0, 2), ((0, "a", 1), (0, "b", 0), (1, "a", 2), (2, "c", 0)))
BAD_MACHINES = (None, (), MACHINE[:2], list(MACHINE), (0,) + MACHINE[1:], (True, (), ()), (3, (2, 0), ()), (3, (3,), ()),
                (3, [0], ()), (3, (0,), list(MACHINE[2])), (3, (), ((0, "a", 3),)), (3, (), MACHINE[2][::-1]),
                (3, (), ((0, "", 1),)), "abc", 3)


def random_walker(rng, book, states=3, words=("a", "b"), full=0.92):
    """Any walker of the book; its rules often lead on downward first, then upward."""
    many = rng.randint(1, states)
    rules = []
    for state in range(many):
        for con, (_, kids) in enumerate(book[2]):
            for came in range(len(kids) + 1):
                if rng.random() < full:
                    to = (came + 1) % (len(kids) + 1) if rng.random() < 0.7 else rng.randint(0, len(kids))
                    text = tuple([rng.choice(words) for _ in range(rng.choice((0, 0, 1, 2)))])
                    rules.append((state, con, came, text, to, rng.randrange(many)))
    return ("walker", many, tuple(rules))


def walker_samples(seed, many, states=3, **more):
    """Books with a walker each: any ones, and ones that say what pieces say, some of them spoiled."""
    rng = random.Random(seed)
    for book in (NEST, PAIRS, DEAD, EMPTY, FOUR, NO_STARTS, NO_CONS):
        yield book, random_walker(rng, book, states=2)
        yield book, ("walker", 1, ())
    for _ in range(many):
        book = random_book(rng, most_kids=2)
        yield book, random_walker(rng, book, states=states, **more)
        book = random_book(rng, most_kids=2)
        walker = walker_of(book, random_pieces(rng, book))
        yield book, walker
        rules = [rule for rule in walker[2] if rng.random() < 0.95]
        yield book, (walker[0], walker[1], tuple(rules))


def random_row(rng, rank, args, words=("a", "b")):
    """Any row of webs; often its graph is not dead around kids that lead from even doors to odd ones."""
    size = rng.randint(max([rank, 1] + args), max([rank, 1] + args) + rng.choice((0, 0, 1, 3)))
    doors = tuple(rng.sample(range(size), rank))
    inner = tuple([tuple(rng.sample(range(size), many)) for many in args])
    edges = []
    if size > 1:
        for _ in range(rng.randint(0, size)):
            first, last = rng.sample(range(size), 2)
            edges.append((first, last, tuple([rng.choice(words) for _ in range(rng.choice((0, 1, 1)))])))
    return (size, doors, tuple(edges), inner)


def random_webs(rng, book, rank=4):
    """Any webs of the book; most of their trees are dead."""
    ranks = tuple([2 if sort in book[1] else rng.randint(1, rank) for sort in range(book[0])])
    rows = [random_row(rng, ranks[result], [ranks[kid] for kid in kids]) for result, kids in book[2]]
    return ("webs", ranks, tuple(rows))


def loose_webs(rng, book):
    """Webs that say what pieces say, with doors and inner nodes in any place, and more doors passed."""
    pieces = random_pieces(rng, book)
    _, ranks, rows = webs_of(book, pieces)
    ranks = list(ranks)
    more = [sort for sort in range(book[0]) if sort not in book[1] and rng.random() < 0.5]
    for sort in more:
        ranks[sort] += 1
    told = []
    for (result, kids), (size, doors, edges, args) in zip(book[2], rows):
        edges = list(edges)
        if result in more:
            # One more door: lone, or in the middle of an edge.
            if rng.random() < 0.3:
                doors += (size,)
            else:
                first, last, words = edges.pop(rng.randrange(len(edges)))
                cut = rng.randint(0, len(words))
                edges.extend([(first, size, words[:cut]), (size, last, words[cut:])])
                doors += (size,)
            size += 1
        inner = []
        for kid, nodes in zip(kids, args):
            inner.append(nodes + ((size,) if kid in more else ()))
            if kid in more:
                size += 1
        told.append((size, doors, edges, inner))
    return ("webs", tuple(ranks), tuple([mixed(rng, row) for row in told]))


def mixed(rng, row):
    """The row with other numbers of nodes, its edges in any sequence."""
    size, doors, edges, args = row
    order = list(range(size))
    rng.shuffle(order)
    edges = [(order[first], order[last], words) for first, last, words in edges]
    rng.shuffle(edges)
    return (size, tuple([order[node] for node in doors]), tuple(edges),
            tuple([tuple([order[node] for node in nodes]) for nodes in args]))


def web_samples(seed, many):
    """Books with webs each: any ones, and ones that say what pieces say, some of them spoiled."""
    rng = random.Random(seed)
    for book in (NEST, PAIRS, DEAD, EMPTY, FOUR, NO_STARTS, NO_CONS):
        yield book, random_webs(rng, book)
        yield book, loose_webs(rng, book)
    for _ in range(many):
        book = random_book(rng, most_kids=2)
        yield book, random_webs(rng, book)
        book = random_book(rng, most_kids=2)
        yield book, loose_webs(rng, book)
        book = random_book(rng, most_kids=2)
        yield book, spoiled_webs(rng, book)


def spoiled_webs(rng, book):
    """Webs that say what pieces say, but for some rows."""
    way, ranks, rows = loose_webs(rng, book)
    told = []
    for (result, kids), row in zip(book[2], rows):
        if rng.random() < 0.3:
            row = random_row(rng, ranks[result], [ranks[kid] for kid in kids])
        told.append(row)
    return (way, ranks, tuple(told))


def tongue_samples(seed, many):
    """Books with a list of tongues of all ways each."""
    rng = random.Random(seed)
    while many:
        book = random_book(rng, most_kids=2)
        try:
            functions = random_functions(rng, book)
        except NoTerm:
            continue
        many -= 1
        pieces = random_pieces(rng, book)
        yield book, [pieces, random_pieces(rng, book, width=2), functions, functions_of(book, pieces),
                     random_walker(rng, book), walker_of(book, pieces), loose_webs(rng, book), spoiled_webs(rng, book)]


def random_machine(rng, states=4, words=("a", "b"), full=0.75):
    """Any machine."""
    many = rng.randint(1, states)
    finals = tuple(sorted(rng.sample(range(many), rng.randint(0, many))))
    rows = [(state, word, rng.randrange(many)) for state in range(many) for word in words if rng.random() < full]
    return (many, finals, tuple(sorted(rows)))


def slow_walk(book, walker, tree, state):
    """The walk of [7], as walk_steps tells it; then the words said."""
    kids = []
    parents = {0: None}
    for at in range(len(tree)):
        kids.append([])
        place = at + 1
        for k in range(len(book[2][tree[at]][1])):
            kids[at].append(place)
            parents[place] = (at, k)
            place = slow_parse(book, tree, place)
    steps, words = [], []
    node, came = 0, 0
    while True:
        if (node, state, came) in steps:
            return "round", tuple(steps), tuple(words)
        steps.append((node, state, came))
        due = [rule for rule in walker[2] if rule[:3] == (state, tree[node], came)]
        if not due:
            return "stuck", tuple(steps), tuple(words)
        words.extend(due[0][3])
        state = due[0][5]
        if due[0][4] > 0:
            node, came = kids[node][due[0][4] - 1], 0
        elif node == 0:
            return "ended", tuple(steps), tuple(words)
        else:
            node, came = parents[node][0], parents[node][1] + 1


def slow_behaviour(book, walker, tree):
    """The behaviour of a tree: a walk from each state."""
    found = []
    for state in range(walker[1]):
        word, steps, _ = slow_walk(book, walker, tree, state)
        last = steps[-1]
        rules = [rule for rule in walker[2] if rule[:3] == (last[1], tree[last[0]], last[2])]
        found.append(rules[0][5] if word == "ended" else -1)
    return tuple(found)


def slow_glue(book, webs, tree, path=(), doors=None):
    """The nodes and edges of a tree's graph, whose nodes have any names; then its doors."""
    size, own, edges, args = webs[2][tree[0]]
    names = [(path, node) for node in range(size)]
    if doors is None:
        doors = [("door", k) for k in range(len(own))]
    for k, node in enumerate(own):
        names[node] = doors[k]
    nodes = set(names)
    found = [(names[first], names[last], words) for first, last, words in edges]
    for k, kid in enumerate(slow_kids(book, tree)):
        inner, more, _ = slow_glue(book, webs, kid, path + (k,), [names[node] for node in args[k]])
        nodes |= inner
        found += more
    return nodes, found, doors


def slow_links(nodes, edges, doors):
    """The links of a graph with these doors, None if it is dead, word for word as in [8]."""
    for node in nodes:
        leave = [edge for edge in edges if edge[0] == node]
        come = [edge for edge in edges if edge[1] == node]
        if len(leave) > 1 or len(come) > 1 or node not in doors and not (leave and come):
            return None
    onward = {first: (last, words) for first, last, words in edges}
    for node in nodes:
        at = node
        for _ in range(len(nodes)):
            at = onward.get(at, (None,))[0]
        if at is not None:
            return None
    links = []
    for k, door in enumerate(doors):
        if door in onward:
            at, said = onward[door]
            while at not in doors:
                at, words = onward[at]
                said += words
            links.append((k, doors.index(at), said))
    return tuple(sorted(links))


def slow_row(nodes, edges, doors):
    """The words along the row, None if the graph is not one row, word for word as in [8]."""
    for node in nodes:
        if len([edge for edge in edges if edge[0] == node]) > 1 or len([edge for edge in edges if edge[1] == node]) > 1:
            return None
    if [edge for edge in edges if edge[1] == doors[0] or edge[0] == doors[1]]:
        return None
    passed, words, node, used = {doors[0]}, (), doors[0], 0
    while node != doors[1]:
        onward = [edge for edge in edges if edge[0] == node]
        if not onward:
            return None
        node = onward[0][1]
        words += onward[0][2]
        passed.add(node)
        used += 1
    return words if passed == nodes and used == len(edges) else None


def slow_says(book, tongue, tree):
    """What a tongue of any way says of a start tree, None if it is unsaid."""
    if tongue[0] == "pieces":
        return slow_texts(book, tongue, tree)[0]
    if tongue[0] == "functions":
        return slow_worth(book, tongue, tree)(())
    if tongue[0] == "walker":
        word, _, words = slow_walk(book, tongue, tree, 0)
        return words if word == "ended" else None
    return slow_row(*slow_glue(book, tongue, tree))


def slow_worth(book, functions, tree):
    """The worth of a tree: that of its constructor's term, used on those of the kids."""
    value = worth(functions[2][tree[0]])
    for kid in slow_kids(book, tree):
        value = value(slow_worth(book, functions, kid))
    return value
