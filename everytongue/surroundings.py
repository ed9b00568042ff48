"""Rows around graphs."""

from everytongue.chains import doors_left
from everytongue.graphs import DEAD, chains_in, is_graph, shape_in
from everytongue.refusing import require


def around(graph):
    """A row of a constructor that makes one row of a kid with this graph, None if the graph is dead."""
    require(is_graph(graph) and graph[0] >= 1, "graph")
    rank = graph[0]
    shape = shape_in(graph)
    if shape == DEAD:
        return None
    chains = chains_in(shape) + [(door,) for door in doors_left(rank, shape)]
    edges = []
    last = rank
    for chain in chains:
        edges.append((last, chain[0], ()))
        last = chain[-1]
    edges.append((last, rank + 1, ()))
    return (rank + 2, (rank, rank + 1), tuple(edges), (tuple(range(rank)),))
