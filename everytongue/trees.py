"""Trees and contexts, written flat."""

from everytongue.checkers import is_any_tree, is_book, is_con, is_sort, tree_sort
from everytongue.errors import NotUsable
from everytongue.kinds import is_below, is_each, is_integer
from everytongue.refusing import bound_nodes, require


def is_tree(book, sort, thing):
    """Whether thing is a tree of the sort."""
    require(is_book(book), "book")
    require(is_sort(book, sort), "sort")
    return is_tree_of(book, sort, thing)


def sort_of(book, tree):
    """The sort of the tree."""
    require(is_book(book), "book")
    require(is_any_tree(book, tree), "tree")
    return tree_sort(book, tree)


def kids_of(book, tree):
    """The trees of the root's kids, in sequence."""
    require(is_book(book), "book")
    require(is_any_tree(book, tree), "tree")
    ends = tree_ends(book, tree)
    return tuple([tree[at:ends[at]] for at in kid_places(book, tree)[0]])


def tree_of(book, con, *kids):
    """The tree of con with the trees kids."""
    require(is_book(book), "book")
    require(is_con(book, con), "con")
    due = book[2][con][1]
    for k in range(max(len(due), len(kids))):
        if k >= len(due) or k >= len(kids) or not is_tree_of(book, due[k], kids[k]):
            raise NotUsable("kids", k)
    bound_nodes(1 + sum([len(kid) for kid in kids]))
    return (con,) + tuple([node for kid in kids for node in kid])


def height_of(book, tree):
    """The height of the tree."""
    require(is_book(book), "book")
    require(is_any_tree(book, tree), "tree")
    places = kid_places(book, tree)
    heights = [1] * len(tree)
    for at in reversed(range(len(tree))):
        heights[at] = 1 + max([heights[place] for place in places[at]], default=0)
    return heights[0]


def node_tree(book, tree, at):
    """The tree whose root is the node at."""
    require(is_book(book), "book")
    require(is_any_tree(book, tree), "tree")
    require(is_below(at, len(tree)), "at")
    return tree[at:tree_ends(book, tree)[at]]


def parents_of(book, tree):
    """For each node its parent and its place among the parent's kids."""
    require(is_book(book), "book")
    require(is_any_tree(book, tree), "tree")
    return tuple(parent_places(kid_places(book, tree)))


def is_context(book, sort, thing):
    """Whether thing is a context of the sort."""
    require(is_book(book), "book")
    require(is_sort(book, sort), "sort")
    return is_context_of(book, sort, thing)


def sort_around(book, sort, context):
    """The sort around a context of the sort."""
    require(is_book(book), "book")
    require(is_sort(book, sort), "sort")
    require(is_context_of(book, sort, context), "context")
    if context[0] == -1:
        return sort
    return tree_sort(book, context)


def put_in(context, inner):
    """The context with inner in the place of its hole."""
    require(is_each(context, is_flat) and context.count(-1) == 1, "context")
    require(is_each(inner, is_flat) and len(inner) > 0, "inner")
    hole = context.index(-1)
    whole = context[:hole] + inner + context[hole + 1:]
    bound_nodes(len(whole) - whole.count(-1))
    return whole


def is_flat(thing):
    """Whether thing can stand in a tree or context of some book."""
    return is_integer(thing) and thing >= -1


def is_tree_of(book, sort, thing):
    """Whether thing is a tree of a sort that is known to be one."""
    return is_any_tree(book, thing) and tree_sort(book, thing) == sort


def is_context_of(book, sort, thing):
    """Whether thing is a context of a sort that is known to be one."""
    if not is_each(thing, is_flat) or thing.count(-1) != 1:
        return False
    # -1 stands for whatever sort the root may have.
    due = [-1]
    for node in thing:
        if not due:
            return False
        wanted = due.pop()
        if node == -1:
            found = sort
        elif is_con(book, node):
            found = book[2][node][0]
            due.extend(book[2][node][1][::-1])
        else:
            return False
        if wanted not in (-1, found):
            return False
    return not due


def tree_ends(book, tree):
    """For each node the place behind the tree whose root it is."""
    ends = [0] * len(tree)
    for at in reversed(range(len(tree))):
        end = at + 1
        for _ in book[2][tree[at]][1]:
            end = ends[end]
        ends[at] = end
    return ends


def kid_places(book, tree):
    """For each node the list of the places of its kids."""
    ends = tree_ends(book, tree)
    places = []
    for at, con in enumerate(tree):
        row = []
        place = at + 1
        for _ in book[2][con][1]:
            row.append(place)
            place = ends[place]
        places.append(row)
    return places


def parent_places(places):
    """For each node its parent and its place among the parent's kids; places has those of kids."""
    parents = [(-1, -1)] * len(places)
    for at, row in enumerate(places):
        for kid, place in enumerate(row):
            parents[place] = (at, kid)
    return parents
