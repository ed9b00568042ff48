"""Which sorts and constructors are used, and books with these alone."""

from everytongue.checkers import is_book
from everytongue.refusing import require
from everytongue.rings import ring_nodes


def live_sorts(book):
    """The sorts that have trees."""
    require(is_book(book), "book")
    return places_of(live_flags(book))


def used_sorts(book):
    """The sorts that stand in start trees."""
    require(is_book(book), "book")
    return places_of(used_flags(book))


def used_cons(book):
    """The constructors that stand in start trees."""
    require(is_book(book), "book")
    return used_places(book)


def trimmed(book):
    """The book with its used sorts and constructors alone."""
    require(is_book(book), "book")
    return trim_book(book)


def looping_sorts(book):
    """The used sorts that stand, in some start tree, within a tree of the same sort."""
    require(is_book(book), "book")
    edges = [[] for _ in range(book[0])]
    for con in used_places(book):
        result, kids = book[2][con]
        edges[result].extend(kids)
    return tuple(ring_nodes(edges))


def places_of(flags):
    """The ascending tuple of the places at which flags are set."""
    return tuple([place for place, flag in enumerate(flags) if flag])


def kid_uses(book):
    """For each sort the list of the constructors with such kids, once for each kid."""
    uses = [[] for _ in range(book[0])]
    for con, (_, kids) in enumerate(book[2]):
        for kid in kids:
            uses[kid].append(con)
    return uses


def live_flags(book):
    """For each sort whether it has trees."""
    uses = kid_uses(book)
    waits = [len(kids) for _, kids in book[2]]
    live = [False] * book[0]
    ready = [con for con, wait in enumerate(waits) if wait == 0]
    while ready:
        result = book[2][ready.pop()][0]
        if live[result]:
            continue
        live[result] = True
        for con in uses[result]:
            waits[con] -= 1
            if waits[con] == 0:
                ready.append(con)
    return live


def live_cons(book):
    """The ascending list of the constructors that stand in trees."""
    live = live_flags(book)
    return [con for con, (_, kids) in enumerate(book[2]) if all([live[kid] for kid in kids])]


def used_flags(book):
    """For each sort whether it stands in a start tree."""
    live = live_flags(book)
    rows = [[] for _ in range(book[0])]
    for con in live_cons(book):
        result, kids = book[2][con]
        rows[result].append(kids)
    used = [False] * book[0]
    todo = [start for start in book[1] if live[start]]
    while todo:
        sort = todo.pop()
        if not used[sort]:
            used[sort] = True
            todo.extend([kid for kids in rows[sort] for kid in kids])
    return used


def used_places(book):
    """The ascending tuple of the constructors that stand in start trees."""
    used = used_flags(book)
    return tuple([con for con in live_cons(book) if used[book[2][con][0]]])


def trim_book(book):
    """The book trimmed."""
    numbers = {}
    for sort in places_of(used_flags(book)):
        numbers[sort] = len(numbers)
    starts = tuple([numbers[start] for start in book[1] if start in numbers])
    cons = []
    for con in used_places(book):
        result, kids = book[2][con]
        cons.append((numbers[result], tuple([numbers[kid] for kid in kids])))
    return (len(numbers), starts, tuple(cons))


def is_trimmed(book):
    """Whether all sorts and constructors of the book are used."""
    # If all sorts are used, each constructor has trees for its kids, and a result that is used.
    return all(used_flags(book))
