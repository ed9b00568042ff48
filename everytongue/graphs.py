"""Graphs, and the ways along their edges."""

from everytongue.kinds import is_below, is_number, is_text
from everytongue.refusing import require

# The shape of a dead graph, which no graph that is not dead can have.
DEAD = ((0, 0),)
# The shape of graphs that are one row.
ROW = ((0, 1),)


def is_graph(thing):
    """Whether thing is a graph."""
    if not (isinstance(thing, tuple) and len(thing) == 3):
        return False
    rank, size, edges = thing
    if not (is_number(rank) and is_number(size) and rank <= size):
        return False
    return are_edges(size, edges)


def is_dead(graph):
    """Whether the graph is dead."""
    require(is_graph(graph), "graph")
    return links_in(graph) is None


def graph_links(graph):
    """The ascending tuple of the graph's links, None if it is dead."""
    require(is_graph(graph), "graph")
    return links_in(graph)


def graph_shape(graph):
    """The shape of the graph."""
    require(is_graph(graph), "graph")
    return shape_in(graph)


def are_edges(size, thing):
    """Whether thing is a tuple of edges between the first size nodes."""
    return isinstance(thing, tuple) and all([is_edge(size, edge) for edge in thing])


def is_edge(size, thing):
    """Whether thing is an edge between two of the first size nodes."""
    if not (isinstance(thing, tuple) and len(thing) == 3):
        return False
    first, last, words = thing
    return is_below(first, size) and is_below(last, size) and first != last and is_text(words)


def links_in(graph):
    """The links of the graph, None if it is dead; in the place of words anything may stand."""
    rank, size, edges = graph
    onward = {}
    entered = {}
    for first, last, words in edges:
        if first in onward or last in entered:
            return None
        onward[first] = (last, words)
        entered[last] = True
    inner = size - rank
    for nodes in (onward, entered):
        if len([node for node in nodes if node >= rank]) < inner:
            return None
    links, passed = door_ways(onward, rank)
    # Edges that no way from a door passes lead round through inner nodes.
    if passed < len(edges) or not leads_on(links):
        return None
    return links


def door_ways(onward, rank):
    """The ways from each door along edges to the next door, and how many edges they pass."""
    links = []
    passed = 0
    for door in sorted([node for node in onward if node < rank]):
        last, words = onward[door]
        said = list(words)
        passed += 1
        while last >= rank:
            last, words = onward[last]
            said.extend(words)
            passed += 1
        links.append((door, last, tuple(said)))
    return tuple(links), passed


def leads_on(links):
    """Whether links, of which no two begin or end at one door, do not lead round."""
    return sum([len(chain) - 1 for chain in chains_in(links)]) == len(links)


def chains_in(links):
    """The ascending list of the ways along links from a door to which none leads; without their rings."""
    onward = {link[0]: link[1] for link in links}
    entered = {link[1]: True for link in links}
    chains = []
    for first in sorted(onward):
        if first not in entered:
            chain = [first]
            while chain[-1] in onward:
                chain.append(onward[chain[-1]])
            chains.append(tuple(chain))
    return chains


def shape_in(graph):
    """The shape of the graph; in the place of words anything may stand."""
    links = links_in(graph)
    if links is None:
        return DEAD
    return tuple([(first, last) for first, last, _ in links])
