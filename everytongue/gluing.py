"""The graphs of trees."""

from everytongue.checkers import is_any_tree, is_book
from everytongue.graphs import is_graph, links_in
from everytongue.refusing import require
from everytongue.trees import kid_places
from everytongue.webchecker import is_webs


def glued(book, webs, tree):
    """The graph of the tree."""
    require(is_book(book), "book")
    require(is_webs(book, webs), "webs")
    require(is_any_tree(book, tree), "tree")
    return glued_graph(book, webs, tree)


def row_text(graph):
    """The words along the row, None if the graph, of rank 2, is not one row."""
    require(is_graph(graph) and graph[0] == 2, "graph")
    return row_words(graph)


def glued_graph(book, webs, tree):
    """The graph of a tree that is known to be one."""
    places = kid_places(book, tree)
    rank = len(webs[2][tree[0]][1])
    size = rank
    doors = [()] * len(tree)
    doors[0] = tuple(range(rank))
    edges = []
    # A node's numbers come from its parent, which stands ahead of it.
    for at, con in enumerate(tree):
        many, own, row, args = webs[2][con]
        numbers = {node: number for node, number in zip(own, doors[at])}
        for node in range(many):
            if node not in numbers:
                numbers[node] = size
                size += 1
        edges.extend([(numbers[first], numbers[last], words) for first, last, words in row])
        for place, nodes in zip(places[at], args):
            doors[place] = tuple([numbers[node] for node in nodes])
    return (rank, size, tuple(edges))


def row_words(graph):
    """The words along the row of what is known to be a graph of rank 2, None if it is not one row."""
    links = links_in(graph)
    if links is None or len(links) != 1 or links[0][:2] != (0, 1):
        return None
    return links[0][2]
