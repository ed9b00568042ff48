"""Tongues in pieces and tongues of functions, told by webs."""

from everytongue.checkers import is_book
from everytongue.ftypes import door_count
from everytongue.piecechecker import is_pieces
from everytongue.plugging import wired_con
from everytongue.refusing import require
from everytongue.termchecker import is_functions


def webs_of(book, pieces):
    """Webs that say the same of every start tree, with two doors for each piece."""
    require(is_book(book), "book")
    require(is_pieces(book, pieces), "pieces")
    rows = [piece_web(pieces[1], kids, row) for (_, kids), row in zip(book[2], pieces[2])]
    return ("webs", tuple([2 * width for width in pieces[1]]), tuple(rows))


def webs_of_functions(book, functions):
    """Webs that say the same of every start tree, with the doors of its type for each sort."""
    require(is_book(book), "book")
    require(is_functions(book, functions), "functions")
    rows = [link_web(book, functions, con) for con in range(len(book[2]))]
    return ("webs", tuple([door_count(ftype) for ftype in functions[1]]), tuple(rows))


def piece_web(widths, kids, row):
    """The row of a constructor with these kids: two nodes for each of its pieces and each slot."""
    size = 2 * len(row)
    doors = tuple(range(size))
    args = []
    for kid in kids:
        args.append(tuple(range(size, size + 2 * widths[kid])))
        size += 2 * widths[kid]
    edges = []
    for j, piece in enumerate(row):
        node, words = 2 * j, []
        for item in piece:
            if isinstance(item, str):
                words.append(item)
            else:
                kid, inner = item
                edges.append((node, args[kid][2 * inner], tuple(words)))
                node, words = args[kid][2 * inner + 1], []
        edges.append((node, 2 * j + 1, tuple(words)))
    return (size, doors, tuple(edges), tuple(args))


def link_web(book, functions, con):
    """The row of a constructor: a node for each door of its term's type, an edge for each link."""
    result, kids = book[2][con]
    links, firsts = wired_con(book, functions, con)
    args = [right_nodes(functions[1][kid], first) for kid, first in zip(kids, firsts)]
    doors = right_nodes(functions[1][result], firsts[-1])
    return (firsts[-1] + len(doors), doors, links, tuple(args))


def right_nodes(ftype, first):
    """The nodes of the doors of the type, from the right; first is that of the leftmost door."""
    return tuple([first + door for door in reversed(range(door_count(ftype)))])
