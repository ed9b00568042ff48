"""Trees in order, numbered."""

from everytongue.checkers import is_any_tree, is_book, is_sort, tree_sort
from everytongue.errors import TooMuch
from everytongue.kinds import is_number
from everytongue.refusing import MOST_NODES, bound_count, bound_nodes, require
from everytongue.treecounts import grow_tables, joined_count, open_tables, size_tables, start_count, trees_from
from everytongue.trees import kid_places, tree_ends
from everytongue.trimming import used_places


def order_key(book, tree):
    """A tuple; trees stand in order as their tuples do."""
    require(is_book(book), "book")
    require(is_any_tree(book, tree), "tree")
    return tree_key(book, tree, list(range(len(book[2]))))


def tree_number(book, tree):
    """The place of the tree, in order, among the trees of its sort."""
    require(is_book(book), "book")
    require(is_any_tree(book, tree), "tree")
    sort = tree_sort(book, tree)
    tables = size_tables(book, sort, len(tree))
    rows = sort_rows(book, sort)
    sizes = node_sizes(book, tree)
    places = kid_places(book, tree)
    ranks = [0] * len(tree)
    for at in reversed(range(len(tree))):
        kids = [(sizes[place], ranks[place]) for place in places[at]]
        ranks[at] = rank_of(book, rows, tables, tree[at], kids)
    number = sum(tables[0][sort][0][:len(tree)]) + ranks[0]
    bound_count(number)
    return number


def nth_tree(book, sort, number):
    """The tree of the sort that stands, in order, at the place number."""
    require(is_book(book), "book")
    require(is_sort(book, sort), "sort")
    require(is_number(number), "number")
    many = start_count(trees_from(book, sort))
    require(many is None or number < many, "number")
    tables = open_tables(book, sort)
    size, rank = 0, number
    while rank >= tables[0][sort][0][size]:
        if size == MOST_NODES:
            raise TooMuch("tree")
        rank -= tables[0][sort][0][size]
        size += 1
        grow_tables(tables)
    return ranked_tree(book, sort, tables, size, rank)


def drawn_tree(book, sort, size, number):
    """Of the trees of this sort and size the one at the place number, round and round."""
    require(is_book(book), "book")
    require(is_sort(book, sort), "sort")
    require(is_number(size), "size")
    tables = size_tables(book, sort, size)
    many = tables[0][sort][0][size]
    require(many > 0, "size")
    require(is_number(number), "number")
    bound_nodes(size)
    return ranked_tree(book, sort, tables, size, number % many)


def tree_key(book, tree, erase):
    """The tuple by which a tree stands in the order of trees as erased."""
    sizes = node_sizes(book, tree)
    key = [len(tree)]
    for con, places in zip(tree, kid_places(book, tree)):
        key.append(erase[con])
        key.extend([sizes[place] for place in places])
    return tuple(key)


def node_sizes(book, tree):
    """For each node the size of the tree whose root it is."""
    return [end - at for at, end in enumerate(tree_ends(book, tree))]


def sort_rows(book, sort):
    """For each sort its constructors that stand in trees of sort, ascending."""
    rows = [[] for _ in range(book[0])]
    for con in used_places(trees_from(book, sort)):
        rows[book[2][con][0]].append(con)
    return rows


def rank_of(book, rows, tables, con, told):
    """The place of a tree among those of its sort and size.

    told has the size and the place of each of its kids' trees.
    """
    counts, joined, _, _ = tables
    result, kids = book[2][con]
    left = sum([size for size, _ in told])
    rank = sum([joined[book[2][other][1]][0][left] for other in rows[result] if other < con])
    ways = 1
    inner = 0
    for k, (size, place) in enumerate(told):
        many = counts[kids[k]][0]
        # The last kid's size is what the others leave.
        if k + 1 < len(kids):
            rest = joined[kids[k + 1:]][0][left - size + 1:left]
            rank += ways * joined_count(many[1:size], rest[::-1])
        ways *= many[size]
        left -= size
        inner = inner * many[size] + place
    return rank + inner


def ranked_tree(book, sort, tables, size, rank):
    """The tree of this place among those of the sort and size."""
    rows = sort_rows(book, sort)
    nodes = []
    todo = [(sort, size, rank)]
    while todo:
        due, many, place = todo.pop()
        con, place = ranked_con(book, rows[due], tables[1], many - 1, place)
        nodes.append(con)
        kids = ranked_kids(tables, book[2][con][1], many - 1, place)
        todo.extend(kids[::-1])
    return tuple(nodes)


def ranked_con(book, row, joined, left, rank):
    """The constructor of the tree at this place, and its place among those with this root."""
    k = 0
    while rank >= joined[book[2][row[k]][1]][0][left]:
        rank -= joined[book[2][row[k]][1]][0][left]
        k += 1
    return row[k], rank


def ranked_kids(tables, kids, left, rank):
    """For each kid of the tree at this place the sort, size and place of its tree."""
    counts, joined, _, _ = tables
    sizes = []
    ways = 1
    for k, kid in enumerate(kids):
        size, rank = ranked_size(counts[kid], joined[kids[k + 1:]], left, ways, rank)
        sizes.append(size)
        ways *= counts[kid][0][size]
        left -= size
    told = []
    for kid, size in zip(kids[::-1], sizes[::-1]):
        told.append((kid, size, rank % counts[kid][0][size]))
        rank //= counts[kid][0][size]
    return told[::-1]


def ranked_size(one, other, left, ways, rank):
    """The size that a kid has at this place, and the place among those with this size.

    one is its table, and other that of the rows behind it; left is how many nodes they have
    in all, and ways in how many ways the kids ahead of it can be told.
    """
    sizes = one[1]
    if len(other[1]) < len(sizes):
        sizes = [left - size for size in other[1][::-1] if size < left]
    at = 0
    while rank >= ways * one[0][sizes[at]] * other[0][left - sizes[at]]:
        rank -= ways * one[0][sizes[at]] * other[0][left - sizes[at]]
        at += 1
    return sizes[at], rank
