"""The checker of webs, graphs, shapes and chains, rows around graphs [53] to [57], [62], G6."""

import itertools
import random
import unittest

from everytongue.chains import chains_of, is_shape, lone_doors
from everytongue.gluing import glued, row_text
from everytongue.graphs import graph_links, graph_shape, is_dead, is_graph
from everytongue.surroundings import around
from everytongue.webchecker import lets_webs
from asking import Asking
from samples import BAD_BOOKS, BAD_TREES, EMPTY, FOUR, NEST, NO_CONS, ODD, PAIRS, trees_by_size
from waysamples import BAD_WEBS, NET, slow_glue, slow_links, slow_row, web_samples

GRAPH = (3, 4, ((2, 3, ("a",)), (3, 0, ("b", "c")), (0, 1, ())))
SHAPE = ((0, 3), (2, 5), (5, 0))
BAD_GRAPHS = (None, (), (3, 4), list(GRAPH), (3, 4, list(GRAPH[2])), (5, 4, ()), (-1, 4, ()), (True, 4, ()),
              (0, True, ()), (3, 4, ((0, 4, ()),)), (3, 4, ((1, 1, ()),)), (3, 4, ((0, 1, "a"),)), (3, 4, ((0, 1),)),
              (3, 4, ((0, -1, ()),)), (3, 4, ((False, 1, ()),)), (3, 4, ([0, 1, ()],)), (3, 4, ((0, 1, ("",)),)),
              (3, 4, None), (3, 4, (None,)), (3, 4, ()) * 2, "abc", 3)


def random_graph(rng):
    """Any graph; about half of them are not dead."""
    size = rng.randint(0, 6)
    rank = rng.randint(0, size)
    edges = []
    if rng.random() < 0.4 and size > 1:
        for _ in range(rng.randint(0, size)):
            edges.append(tuple(rng.sample(range(size), 2)))
    else:
        # Ways over some of the doors, with the inner nodes between doors.
        doors = rng.sample(range(rank), rng.randint(0, rank))
        inner = list(range(rank, size))
        rng.shuffle(inner)
        while len(doors) > 1:
            ways = [doors.pop()]
            while doors and rng.random() < 0.7:
                while inner and rng.random() < 0.6:
                    ways.append(inner.pop())
                ways.append(doors.pop())
            edges.extend(zip(ways, ways[1:]))
    rng.shuffle(edges)
    words = [tuple(rng.choice("ab") for _ in range(rng.choice((0, 1, 2)))) for _ in edges]
    return (rank, size, tuple([pair + (text,) for pair, text in zip(edges, words)]))


class LetsWebs(Asking):

    def test_webs(self):
        self.same(lets_webs(NEST, NET), 2)
        self.same(lets_webs(thing=NET, book=NEST), 2)
        self.same(lets_webs(EMPTY, ("webs", (), ())), 0)
        self.same(lets_webs(NO_CONS, ("webs", (2, 10 ** 59), ())), 10 ** 59)
        wide = (10 ** 59, (5, 10 ** 58), ((7, 8, ("w",) * 500),), ((0, 1), (1, 0), (8, 9), (3, 10 ** 59 - 1)))
        book = (1, (0,), ((0, (0, 0, 0, 0)),))
        self.same(lets_webs(book, ("webs", (2,), (wide,))), 2)
        self.same(lets_webs((1, (), ((0, ()),)), ("webs", (1,), ((1, (0,), (), ()),))), 1)
        for book, webs in web_samples(80, 60):
            self.same(lets_webs(book, webs), max(webs[1], default=0))

    def test_shape(self):
        for thing in ODD + (NET[:2], NET + (1,), list(NET), ("web",) + NET[1:], ("walker", 1, ()), (["webs"], (), ())):
            self.invalid("shape", -1, lets_webs, NEST, thing)

    def test_ranks(self):
        for ranks in (None, [2, 2], (2,), (2, 2, 2), (1, 2), (3, 2), (2, 0), (2, -1), (2, True), (2, None), "22", 2):
            self.invalid("ranks", -1, lets_webs, NEST, ("webs", ranks, NET[2]))
            self.invalid("ranks", -1, lets_webs, NEST, ("webs", ranks, None))
        self.invalid("ranks", -1, lets_webs, FOUR, ("webs", (2, 3), None))

    def test_rows(self):
        for rows in (None, [], list(NET[2]), NET[2][:2], NET[2] + NET[2], "abc", 3):
            self.invalid("rows", -1, lets_webs, NEST, ("webs", (2, 2), rows))

    def each(self, word, row):
        """The row is refused with this word, wherever it stands; it is one of a constructor with one kid."""
        for at in (0, 1):
            rows = NET[2][:at] + (row,) + NET[2][at + 1:]
            self.invalid(word, at, lets_webs, NEST, ("webs", (2, 2), rows))
            self.invalid(word, at, lets_webs, NEST, ("webs", (2, 2), NET[2][:at] + (row, None, None)[:3 - at]))

    def changed(self, at, value, *more):
        row = list(NET[2][1])
        row[at] = value
        for k in more:
            row[k] = None
        return tuple(row)

    def test_row(self):
        for row in (None, (), NET[2][1][:3], NET[2][1] + (1,), list(NET[2][1]), "abcd", 4, True):
            self.each("row", row)

    def test_size(self):
        for size in (0, -1, True, None, "4", (4,)):
            self.each("size", self.changed(0, size))
            self.each("size", self.changed(0, size, 1, 2, 3))

    def test_doors(self):
        for doors in (None, [0, 1], (0,), (0, 1, 2), (0, 0), (0, 4), (0, -1), (0, True), (False, 1), "01", (0, None), 2,
                      (0, (1,))):
            self.each("doors", self.changed(1, doors))
            self.each("doors", self.changed(1, doors, 2, 3))

    def test_edges(self):
        edge = (0, 2, ("a",))
        for wrong in (None, (), (0, 2), edge + (1,), list(edge), (0, 4, ()), (4, 0, ()), (2, 2, ()), (-1, 2, ()),
                      (0, True, ()), (0, 2, "a"), (0, 2, ["a"]), (0, 2, ("",)), (0, 2, None), (0, None, ()), "abc"):
            self.each("edges", self.changed(2, (wrong,)))
            self.each("edges", self.changed(2, (edge, wrong, None), 3))
        for edges in (None, [edge], "abc", 2):
            self.each("edges", self.changed(2, edges))

    def test_args(self):
        for args in (None, (), [(2, 3)], ((2, 3), (2, 3)), ([2, 3],), ((2,),), ((2, 3, 0),), ((2, 2),), ((2, 4),),
                     ((2, -1),), ((True, 2),), (None,), ("23",), 1, (2, 3)):
            self.each("args", self.changed(3, args))
        self.invalid("args", 2, lets_webs, NEST, ("webs", (2, 2), NET[2][:2] + ((2, (0, 1), (), ((0, 1),)),)))

    def test_constructor_by_constructor(self):
        late = NET[2][:1] + (self.changed(3, None), (0, (), None, None))
        self.invalid("args", 1, lets_webs, NEST, ("webs", (2, 2), late))
        self.invalid("size", 2, lets_webs, NEST, ("webs", (2, 2), NET[2][:2] + late[2:]))

    def test_book_first(self):
        for book in BAD_BOOKS:
            self.not_usable("book", lets_webs, book, NET)
            self.not_usable("book", lets_webs, book, None)


class Graphs(Asking):

    def test_examples(self):
        self.same([graph_links(GRAPH), graph_shape(GRAPH)],
                  [((0, 1, ()), (2, 0, ("a", "b", "c"))), ((0, 1), (2, 0))])
        self.same([is_dead((2, 3, ((0, 1, ()),))), graph_shape((2, 2, ((0, 1, ()), (1, 0, ())))),
                   graph_links((2, 2, ()))], [True, ((0, 0),), ()])

    def test_is_graph(self):
        for graph in (GRAPH, (0, 0, ()), (0, 3, ()), (2, 2, ()), (0, 10 ** 59, ()), (10 ** 59, 10 ** 59, ()),
                      (1, 2, ((0, 1, ("w",)),) * 3), (0, 2, ((0, 1, ()), (1, 0, ())))):
            self.assertIs(is_graph(graph), True)
            self.assertIs(is_graph(thing=graph), True)
        for thing in BAD_GRAPHS + ODD:
            self.assertIs(is_graph(thing), False)

    def test_any_graphs(self):
        rng = random.Random(81)
        dead = 0
        for _ in range(4000):
            graph = random_graph(rng)
            rank, size, edges = graph
            self.assertIs(is_graph(graph), True)
            links = slow_links(set(range(size)), list(edges), list(range(rank)))
            dead += links is None
            self.assertIs(is_dead(graph), links is None)
            self.same(graph_links(graph), links)
            shape = ((0, 0),) if links is None else tuple([(first, last) for first, last, _ in links])
            self.same(graph_shape(graph), shape)
            if rank == 2:
                row = slow_row(set(range(size)), list(edges), [0, 1])
                self.same(row_text(graph), row)
                self.assertEqual(row is not None, shape == ((0, 1),))
        self.assertTrue(800 < dead < 3200, dead)

    def test_all_small_graphs(self):
        # All graphs of at most three nodes with at most three edges.
        for size in range(4):
            pairs = list(itertools.permutations(range(size), 2))
            for many in range(4):
                for chosen in itertools.combinations_with_replacement(pairs, many):
                    edges = tuple([pair + (("w",),) for pair in chosen])
                    for rank in range(size + 1):
                        links = slow_links(set(range(size)), list(edges), list(range(rank)))
                        self.same(graph_links((rank, size, edges)), links)

    def test_edges(self):
        self.same(graph_links((0, 0, ())), ())
        self.assertIs(is_dead((0, 0, ())), False)
        self.same(graph_links((1, 1, ())), ())
        # An inner node without edges, one with one edge alone, an edge twice, rings with doors and without.
        self.assertIs(is_dead((0, 1, ())), True)
        self.assertIs(is_dead((2, 3, ((0, 1, ()),))), True)
        self.assertIs(is_dead((2, 3, ((0, 2, ()),))), True)
        self.assertIs(is_dead((2, 3, ((2, 1, ()),))), True)
        self.assertIs(is_dead((2, 2, ((0, 1, ()), (0, 1, ())))), True)
        self.assertIs(is_dead((2, 2, ((0, 1, ("a",)), (0, 1, ("a",))))), True)
        self.assertIs(is_dead((0, 2, ((0, 1, ()), (1, 0, ())))), True)
        self.assertIs(is_dead((1, 2, ((0, 1, ()), (1, 0, ())))), True)
        self.assertIs(is_dead((3, 3, ((0, 1, ()), (1, 2, ()), (2, 0, ())))), True)
        self.assertIs(is_dead((2, 4, ((0, 1, ()), (2, 3, ()), (3, 2, ())))), True)
        self.same(graph_links((2, 4, ((3, 1, ("c",)), (2, 3, ("b",)), (0, 2, ("a",))))), ((0, 1, ("a", "b", "c")),))
        # Far beyond the limits: nodes are not gone through.
        self.assertIs(is_dead((2, 10 ** 50, ())), True)
        self.same(graph_links((10 ** 50, 10 ** 50, ((10 ** 49, 3, ("w",)),))), ((10 ** 49, 3, ("w",)),))

    def test_long(self):
        size = 20000
        edges = tuple([(k, k + 1 if k + 1 < size else 1, ("w",)) for k in range(2, size)]) + ((0, 2, ()),)
        self.same(graph_links((2, size, edges)), ((0, 1, ("w",) * (size - 2)),))
        self.same(row_text((2, size, edges[::-1])), ("w",) * (size - 2))

    def test_parameters(self):
        bad = {"graph": BAD_GRAPHS}
        self.asks(is_dead, {"graph": GRAPH}, bad)
        self.asks(graph_links, {"graph": GRAPH}, bad)
        self.asks(graph_shape, {"graph": GRAPH}, bad)
        more = BAD_GRAPHS + (GRAPH, (1, 2, ()), (0, 0, ()), (1, 1, ()))
        self.asks(row_text, {"graph": (2, 2, ((0, 1, ("w",)),))}, {"graph": more})
        self.same(row_text((2, 2, ((0, 1, ("w",)),))), ("w",))


class Glued(Asking):

    def test_example(self):
        self.same([row_text(glued(NEST, NET, (0, 1, 1, 2))), row_text((2, 2, ()))], [("a", "a", "b", "b"), None])

    def test_graphs(self):
        """glued's graph is the one of [8], but for the names of inner nodes and the sequence of edges."""
        alive, dead = 0, 0
        for book, webs in web_samples(82, 70):
            for rows in trees_by_size(book, 5):
                for tree in [tree for row in rows for tree in row][:15]:
                    graph = glued(book, webs, tree)
                    self.assertIs(is_graph(graph), True)
                    nodes, edges, doors = slow_glue(book, webs, tree)
                    self.assertEqual(graph[:2], (webs[1][book[2][tree[0]][0]], len(nodes)))
                    self.assertEqual(sorted([edge[2] for edge in edges]), sorted([edge[2] for edge in graph[2]]))
                    self.assertEqual(self.degrees(graph[2], range(graph[0])), self.degrees(edges, doors))
                    links = slow_links(nodes, edges, doors)
                    self.same(graph_links(graph), links)
                    if links is None:
                        dead += 1
                    else:
                        alive += 1
                    if graph[0] == 2:
                        self.same(row_text(graph), slow_row(nodes, edges, doors))
        self.assertTrue(alive > 300 and dead > 300, (alive, dead))

    def degrees(self, edges, doors):
        """For each door how many edges go out and come in; the same, sorted, for all nodes with edges."""
        def at(node):
            return (len([edge for edge in edges if edge[0] == node]), len([edge for edge in edges if edge[1] == node]))
        nodes = {node for edge in edges for node in edge[:2]}
        return [at(door) for door in doors], sorted([at(node) for node in nodes])

    def test_just_so(self):
        # All nodes of the row and of the kids are there, each door of a kid at its place.
        book = (2, (0,), ((0, (1, 1)), (1, ())))
        webs = ("webs", (2, 3), ((7, (6, 0), ((6, 1, ("x",)),), ((1, 2, 3), (3, 4, 5))),
                                 (4, (2, 0, 1), ((2, 3, ("y",)), (3, 1, ("z",))), ())))
        self.same(lets_webs(book, webs), 3)
        rank, size, edges = glued(book, webs, (0, 1, 1))
        self.assertEqual((rank, size), (2, 9))
        names = {}
        for first, last, words in edges:
            names.setdefault(words, []).append((first, last))
        (begin, one), = names[("x",)]
        self.assertEqual(begin, 0)
        self.assertEqual(sorted(map(len, names.values())), [1, 2, 2])
        kid, other = sorted(names[("y",)], key=lambda pair: pair[0] != one)
        self.assertEqual(kid[0], one)
        after = {first: last for first, last in names[("z",)]}
        self.assertEqual(after[kid[1]], other[0])
        self.assertNotIn(after[other[1]], (0, 1))

    def test_large(self):
        tree = (0,) + (1,) * 998 + (2,)
        self.same(row_text(glued(NEST, NET, tree)), ("a",) * 998 + ("b",) * 998)

    def test_parameters(self):
        self.asks(glued, {"book": NEST, "webs": NET, "tree": (1, 2)},
                  {"book": BAD_BOOKS, "webs": BAD_WEBS, "tree": BAD_TREES})


class Shapes(Asking):

    def test_example(self):
        self.same([is_shape(6, SHAPE), is_shape(6, ((0, 0),)), chains_of(6, SHAPE), lone_doors(6, SHAPE)],
                  [True, False, ((2, 5, 0, 3),), (1, 4)])

    def slow_shape(self, rank, pairs):
        """Whether pairs are a shape: they are the links of the graph of doors alone that has them as edges."""
        links = slow_links(set(range(rank)), [pair + ((),) for pair in pairs], list(range(rank)))
        return links is not None and links == tuple([pair + ((),) for pair in pairs])

    def test_all_small_shapes(self):
        shapes = 0
        for rank in range(4):
            pairs = list(itertools.product(range(rank + 1), repeat=2))
            for many in range(4):
                for chosen in itertools.product(pairs, repeat=many):
                    fits = all([max(pair) < rank for pair in chosen]) and all([one != two for one, two in chosen])
                    fits = fits and self.slow_shape(rank, chosen)
                    self.assertIs(is_shape(rank, chosen), fits)
                    if fits:
                        shapes += 1
                        self.check_chains(rank, chosen)
        self.assertEqual(shapes, 1 + 1 + 3 + 13)

    def check_chains(self, rank, shape):
        """Each door is lone or in just one chain; chains go along all pairs."""
        chains = chains_of(rank, shape)
        lone = lone_doors(rank, shape)
        self.same(chains, tuple(sorted(chains)))
        self.same(lone, tuple(sorted(lone)))
        self.assertEqual(sorted(list(lone) + [door for chain in chains for door in chain]), list(range(rank)))
        self.assertTrue(all([len(chain) > 1 for chain in chains]))
        self.assertEqual(sorted([pair for chain in chains for pair in zip(chain, chain[1:])]), list(shape))

    def test_any_shapes(self):
        rng = random.Random(83)
        for _ in range(2000):
            graph = random_graph(rng)
            shape = graph_shape(graph)
            self.assertIs(is_shape(graph[0], shape), shape != ((0, 0),))
            if shape != ((0, 0),):
                self.check_chains(graph[0], shape)

    def test_edges(self):
        self.assertIs(is_shape(0, ()), True)
        self.same([chains_of(0, ()), lone_doors(0, ())], [(), ()])
        self.same([chains_of(3, ()), lone_doors(3, ())], [(), (0, 1, 2)])
        self.assertIs(is_shape(2, ((0, 1),)), True)
        self.assertIs(is_shape(1, ((0, 1),)), False)
        self.assertIs(is_shape(10 ** 59, ((3, 10 ** 58),)), True)
        self.same(chains_of(12, tuple([(k, k + 1) for k in range(11)])), (tuple(range(12)),))
        self.same(chains_of(4, ((1, 0), (3, 2))), ((1, 0), (3, 2)))
        self.assertIs(is_shape(4, ((3, 2), (1, 0))), False)
        self.assertIs(is_shape(4, ((0, 1), (0, 1))), False)
        self.assertIs(is_shape(4, ((0, 1), (1, 2), (2, 0))), False)
        self.assertIs(is_shape(4, ((0, 1), (2, 3), (3, 2))), False)
        for thing in ODD[:6] + ([], [(0, 1)], ((0, True),), ((0, 1, 2),), ((0,),), ([0, 1],), (("0", "1"),), ((0, None),),
                                ((-1, 0),), (0, 1), ("01",), ((0, (1,)),), ((0, 1), None)):
            self.assertIs(is_shape(4, thing), False)

    def test_parameters(self):
        ranks = (-1, True, None, "6", (6,), [6])
        for rank in ranks:
            self.not_usable("rank", is_shape, rank, SHAPE)
            self.not_usable("rank", is_shape, rank=rank, thing=None)
        self.assertIs(is_shape(thing=SHAPE, rank=6), True)
        bad = {"rank": ranks, "shape": (((0, 0),), None, list(SHAPE), SHAPE[::-1], ((0, 6),), ((0, True),), 0, "01")}
        self.asks(chains_of, {"rank": 6, "shape": SHAPE}, bad)
        self.asks(lone_doors, {"rank": 6, "shape": SHAPE}, bad)
        self.not_usable("shape", chains_of, 5, SHAPE)
        self.not_usable("shape", lone_doors, 5, SHAPE)


class Around(Asking):

    def test_example(self):
        shell = ("webs", (2, 1), (around((1, 1, ())), (1, (0,), (), ())))
        self.same([row_text(glued((2, (0,), ((0, (1,)), (1, ()))), shell, (0, 1))) is None, around((1, 2, ()))],
                  [False, None])

    def test_each_kind(self):
        """There is a row around each graph that is not dead: it makes one row, with the words of both."""
        rng = random.Random(84)
        book = (2, (0,), ((0, (1,)), (1, ())))
        checked = 0
        for _ in range(3000):
            graph = random_graph(rng)
            rank, size, edges = graph
            if rank == 0:
                self.not_usable("graph", around, graph)
                continue
            row = around(graph)
            self.assertEqual(row is None, is_dead(graph))
            if row is None:
                continue
            checked += 1
            webs = ("webs", (2, rank), (row, (size, tuple(range(rank)), edges, ())))
            lets_webs(book, webs)
            told = row_text(glued(book, webs, (0, 1)))
            self.assertIsNotNone(told)
            own = [word for edge in row[2] for word in edge[2]]
            self.assertEqual(sorted(told), sorted(own + [word for edge in edges for word in edge[2]]))
        self.assertTrue(checked > 500, checked)

    def test_kinds(self):
        book = (2, (0,), ((0, (1,)), (1, ())))
        for graph in ((1, 1, ()), (5, 5, ()), (2, 2, ((1, 0, ("w",)),)), (4, 4, ((0, 1, ()), (2, 3, ()))),
                      (12, 12, tuple([(k + 1, k, ("w",)) for k in range(0, 12, 2)])),
                      (3, 200, tuple([(k, k + 1, ()) for k in range(3, 199)]) + ((0, 3, ()), (199, 2, ()))),
                      GRAPH):
            rank, size, edges = graph
            webs = ("webs", (2, rank), (around(graph), (size, tuple(range(rank)), edges, ())))
            self.same(lets_webs(book, webs), max(2, rank))
            self.assertIsNotNone(row_text(glued(book, webs, (0, 1))))
        for graph in ((1, 2, ()), (2, 2, ((0, 1, ()), (1, 0, ()))), (2, 2, ((0, 1, ()), (0, 1, ())))):
            self.assertIsNone(around(graph))

    def test_dead_graphs(self):
        """No row around a dead graph makes it one row."""
        book = (2, (0,), ((0, (1,)), (1, ())))
        for graph in ((1, 2, ()), (2, 3, ((0, 1, ()),)), (2, 4, ((0, 1, ()), (2, 3, ()), (3, 2, ())))):
            rank, size, edges = graph
            nodes = list(range(3))
            pairs = list(itertools.permutations(nodes, 2))
            for many in range(3):
                for chosen in itertools.combinations(pairs, many):
                    for args in itertools.permutations(nodes, rank):
                        row = (3, (0, 1), tuple([pair + ((),) for pair in chosen]), (args,))
                        webs = ("webs", (2, rank), (row, (size, tuple(range(rank)), edges, ())))
                        self.assertIsNone(row_text(glued(book, webs, (0, 1))))

    def test_parameters(self):
        self.asks(around, {"graph": GRAPH}, {"graph": BAD_GRAPHS + ((0, 0, ()), (0, 1, ()))})


class Rows(Asking):

    def test_four_kids(self):
        # Each kid's one edge, one behind the other.
        args = tuple([(k, k + 1) for k in range(4)])
        webs = ("webs", (2, 2), ((5, (0, 4), (), args), (2, (0, 1), ((0, 1, ("x",)),), ()),
                                 (2, (0, 1), ((0, 1, ("y",)),), ()), (3, (0, 2), ((0, 1, ("z",)),), ((1, 2), (0, 1)))))
        lets_webs(FOUR, webs)
        self.same(row_text(glued(FOUR, webs, (0, 2, 1, 2, 2))), ("y", "x", "y", "y"))
        # The last row has an edge beside its second kid.
        self.assertIsNone(row_text(glued(FOUR, webs, (3, 2, 2))))

    def test_pairs(self):
        webs = ("webs", (2,), ((2, (1, 0), ((1, 0, ("x",)),), ()), (3, (2, 0), (), ((2, 1), (1, 0)))))
        self.same(row_text(glued(PAIRS, webs, (1, 1, 0, 0, 0))), ("x", "x", "x"))


if __name__ == "__main__":
    unittest.main()
