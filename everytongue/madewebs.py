"""Forms of webs."""

from everytongue.checkers import is_book
from everytongue.closing import struck_form, ways_by_state
from everytongue.graphs import ROW, chains_in, links_in
from everytongue.refusing import require
from everytongue.webchecker import is_webs
from everytongue.webshapes import con_graph, shapes_and_ways


def made_webs(book, webs):
    """The form of the webs, with a sort for each sort and shape that stand in start trees that are said."""
    require(is_book(book), "book")
    require(is_webs(book, webs), "webs")
    shapes, ways = shapes_and_ways(book, webs)
    makers = ways_by_state(book, ways)
    starts = [(start, ROW) for start in book[1] if ROW in shapes[start]]
    return struck_form(starts, lambda key: shaped_ways(book, webs, makers[key]))


def shaped_ways(book, webs, makers):
    """The constructors of a sort and shape, with their kids and rows."""
    found = []
    for con, shapes in makers:
        row = chain_row(con_graph(webs, con, shapes))
        found.append((con, tuple(zip(book[2][con][1], shapes)), row))
    return found


def chain_row(graph):
    """What stands along each chain of the graph, which is not dead."""
    links = links_in(graph)
    onward = {first: said for first, _, said in links}
    pieces = []
    for chain in chains_in(links):
        pieces.append(tuple([item for door in chain[:-1] for item in onward[door]]))
    return tuple(pieces)
