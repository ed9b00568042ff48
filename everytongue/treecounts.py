"""How many trees there are."""

from everytongue.checkers import is_book, is_sort
from everytongue.kinds import is_number
from everytongue.refusing import bound_count, count_limit, require
from everytongue.rings import finish_order
from everytongue.trimming import looping_sorts, trim_book, used_places


def size_counts(book, sort, most):
    """At n, from 0 to most, how many trees of the sort have size n."""
    require(is_book(book), "book")
    require(is_sort(book, sort), "sort")
    require(is_number(most), "most")
    counts = size_tables(book, sort, most)[0][sort]
    bound_count(max(counts))
    return tuple(counts)


def count_trees(book):
    """How many start trees there are, None if endlessly many."""
    require(is_book(book), "book")
    many = start_count(book)
    if many is not None:
        bound_count(many)
    return many


def trees_from(book, sort):
    """The book with this start sort alone."""
    return (book[0], (sort,), book[2])


def start_count(book):
    """How many start trees there are, None if endlessly many; from the limit on, the limit."""
    if looping_sorts(book):
        return None
    size, starts, cons = trim_book(book)
    limit = count_limit()
    rows = [[] for _ in range(size)]
    edges = [[] for _ in range(size)]
    for result, kids in cons:
        rows[result].append(kids)
        edges[result].extend(kids)
    counts = [0] * size
    for sort in finish_order(edges):
        for kids in rows[sort]:
            many = 1
            for kid in kids:
                many = min(many * counts[kid], limit)
            counts[sort] = min(counts[sort] + many, limit)
    return min(sum([counts[start] for start in starts]), limit)


def size_tables(book, sort, most):
    """How many trees, and rows of trees, there are below trees of the sort, by size.

    The first table has, for each sort, a list: at n how many trees have size n.
    The second one has, for each tuple of sorts that ends a constructor's kids,
    a list: at n how many rows of trees of these sorts have n nodes in all.
    """
    cons = [book[2][con] for con in used_places(trees_from(book, sort))]
    counts = [[0] * (most + 1) for _ in range(book[0])]
    ends = kid_ends(cons)
    joined = {kids: [0] * (most + 1) for kids in ends}
    joined[()] = [1] + [0] * most
    for n in range(1, most + 1):
        for result, kids in cons:
            counts[result][n] += joined[kids][n - 1]
        for kids in ends:
            first, rest = counts[kids[0]], joined[kids[1:]]
            if len(kids) == 1:
                joined[kids][n] = first[n]
            else:
                joined[kids][n] = joined_count(first[1:n], rest[n - 1:0:-1])
    return counts, joined


def kid_ends(cons):
    """The tuples of sorts, not (), that end the kids of constructors, short ones first."""
    found = {}
    for _, kids in cons:
        for at in range(len(kids)):
            found[kids[at:]] = True
    return sorted(found, key=len)


def joined_count(ones, others):
    """The sum of the products of ones and others, taken in pairs."""
    return sum([one * other for one, other in zip(ones, others) if one and other])
