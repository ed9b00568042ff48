"""How many trees there are."""

from everytongue.checkers import is_book, is_sort
from everytongue.kinds import is_number
from everytongue.refusing import bound_count, count_limit, require
from everytongue.rings import finish_order
from everytongue.trimming import looping_sorts, trim_book, used_places


def size_counts(book, sort, most):
    """At n, from 0 to most, how many trees of the sort have size n."""
    require(is_book(book), "book")
    require(is_sort(book, sort), "sort")
    require(is_number(most), "most")
    counts = size_tables(book, sort, most)[0][sort][0]
    bound_count(max(counts))
    return tuple(counts)


def count_trees(book):
    """How many start trees there are, None if endlessly many."""
    require(is_book(book), "book")
    many = start_count(book)
    if many is not None:
        bound_count(many)
    return many


def trees_from(book, sort):
    """The book with this start sort alone."""
    return (book[0], (sort,), book[2])


def start_count(book):
    """How many start trees there are, None if endlessly many; from the limit on, the limit."""
    if looping_sorts(book):
        return None
    size, starts, cons = trim_book(book)
    limit = count_limit()
    rows = [[] for _ in range(size)]
    edges = [[] for _ in range(size)]
    for result, kids in cons:
        rows[result].append(kids)
        edges[result].extend(kids)
    counts = [0] * size
    for sort in finish_order(edges):
        for kids in rows[sort]:
            many = 1
            for kid in kids:
                many = min(many * counts[kid], limit)
            counts[sort] = min(counts[sort] + many, limit)
    return min(sum([counts[start] for start in starts]), limit)


def size_tables(book, sort, most):
    """How many trees, and rows of trees, there are below trees of the sort, by size.

    A table is a pair of lists: at n how many have n nodes in all, and the n at which
    there are any. There is one for the trees of each sort, and one for the rows of
    trees of each tuple of sorts that ends a constructor's kids.
    """
    tables = open_tables(book, sort)
    for _ in range(most):
        grow_tables(tables)
    return tables


def open_tables(book, sort):
    """The tables as in size_tables, up to size 0; then the constructors and ends that they tell of."""
    cons = [book[2][con] for con in used_places(trees_from(book, sort))]
    ends = kid_ends(cons)
    joined = {kids: ([0], []) for kids in ends}
    joined[()] = ([1], [0])
    return [([0], []) for _ in range(book[0])], joined, cons, ends


def grow_tables(tables):
    """Add the next size to the tables."""
    counts, joined, cons, ends = tables
    size = len(joined[()][0])
    added = [0] * len(counts)
    for result, kids in cons:
        added[result] += joined[kids][0][-1]
    for table, many in zip(counts, added):
        add_count(table, size, many)
    add_count(joined[()], size, 0)
    for kids in ends:
        if len(kids) == 1:
            add_count(joined[kids], size, added[kids[0]])
        else:
            add_count(joined[kids], size, count_rows(counts[kids[0]], joined[kids[1:]], size))


def add_count(table, size, many):
    """Add to the table how many there are of this size."""
    table[0].append(many)
    if many:
        table[1].append(size)


def count_rows(one, other, size):
    """How many pairs there are of what two tables tell of, with so many nodes in all, none without nodes."""
    few, more = (one, other) if len(one[1]) < len(other[1]) else (other, one)
    if 2 * len(few[1]) > size:
        return joined_count(few[0][1:size], more[0][size - 1:0:-1])
    return sum([few[0][part] * more[0][size - part] for part in few[1]])


def kid_ends(cons):
    """The tuples of sorts, not (), that end the kids of constructors, short ones first."""
    found = {}
    for _, kids in cons:
        for at in range(len(kids)):
            found[kids[at:]] = True
    return sorted(found, key=len)


def joined_count(ones, others):
    """The sum of the products of ones and others, taken in pairs."""
    return sum([one * other for one, other in zip(ones, others) if one and other])
