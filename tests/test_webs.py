"""Shapes of webs, forms of webs, webs of pieces and of functions, mirrored webs [58] to [62], G6, G7."""

import itertools
import random
import unittest

from everytongue.chains import chains_of, is_shape
from everytongue.erasing import erased
from everytongue.formchecker import lets_form
from everytongue.ftypes import doors_of
from everytongue.givenfunctions import functions_of
from everytongue.givenwebs import webs_of, webs_of_functions
from everytongue.gluing import glued, row_text
from everytongue.graphs import graph_links, graph_shape, is_dead
from everytongue.madewebs import made_webs
from everytongue.mirroredwebs import mirrored_webs
from everytongue.saying import texts_said
from everytongue.silents import struck
from everytongue.terms import tree_term
from everytongue.trimming import trimmed
from everytongue.webchecker import lets_webs
from everytongue.webshapes import shape_made, web_states
from everytongue.wires import term_links
from everytongue.worths import function_text
from asking import Asking
from samples import (BAD_BOOKS, BAD_FUNCTIONS, BAD_PIECES, DEAD, EMPTY, FOUR, MEAN, NEST, NO_CONS, NO_STARTS, PAIRS,
                     SPLIT, function_samples, random_tongues, slow_kids, slow_nodes, slow_texts, start_trees,
                     trees_by_size)
from waysamples import BAD_WEBS, NET, mixed, slow_links, web_samples

LINE = (1, 0, 0)
GONE = ((0, 0),)
LEAF = (1, (0,), ((0, ()),))


def any_shape(rng, rank):
    """Any shape of the rank, or that of dead graphs."""
    if rng.random() < 0.15:
        return GONE
    doors = rng.sample(range(rank), rng.randint(0, rank))
    pairs = [pair for pair in zip(doors, doors[1:]) if rng.random() < 0.7]
    return tuple(sorted(pairs))


class Shapes(Asking):

    def test_example(self):
        self.same([shape_made(NEST, NET, 1, (((0, 1),),)), shape_made(NEST, NET, 1, ((),)), web_states(NEST, NET)],
                  [((0, 1),), ((0, 0),), ((((0, 1),),), (((0, 1),),))])

    def test_trees(self):
        for book, webs in web_samples(90, 70):
            for rows in trees_by_size(book, 5):
                for tree in [tree for row in rows for tree in row][:15]:
                    shape = graph_shape(glued(book, webs, tree))
                    kids = tuple([graph_shape(glued(book, webs, kid)) for kid in slow_kids(book, tree)])
                    self.same(shape_made(book, webs, tree[0], kids), shape)
                    # G6: what stands around a dead graph is dead.
                    self.assertTrue(GONE not in kids or shape == GONE)

    def test_any_kids(self):
        """Shapes that no tree has, too: word for word as in [58]."""
        rng = random.Random(91)
        alive = 0
        for book, webs in web_samples(91, 120):
            for con, (result, kids) in enumerate(book[2]):
                for _ in range(5):
                    shapes = tuple([any_shape(rng, webs[1][kid]) for kid in kids])
                    size, doors, edges, args = webs[2][con]
                    edges = list(edges)
                    for nodes, shape in zip(args, shapes):
                        if shape != GONE:
                            edges += [(nodes[first], nodes[last], ()) for first, last in shape]
                    links = slow_links(set(range(size)), edges, list(doors))
                    due = GONE
                    if links is not None and GONE not in shapes:
                        due = tuple([(first, last) for first, last, _ in links])
                        alive += 1
                    self.same(shape_made(book, webs, con, shapes), due)
        self.assertTrue(alive > 200, alive)

    def test_web_states(self):
        for book, webs in web_samples(92, 70):
            told = web_states(book, webs)
            self.assertEqual(len(told), book[0])
            for sort, rows in enumerate(trees_by_size(book, 6)):
                due = {graph_shape(glued(book, webs, tree)) for row in rows for tree in row[:40]}
                self.assertTrue(due <= set(told[sort]))
                self.same(told[sort], tuple(sorted(set(told[sort]))))
                for shape in told[sort]:
                    self.assertTrue(shape == GONE or is_shape(webs[1][sort], shape))
            self.same(told, self.closed(book, webs))

    def closed(self, book, webs):
        """All shapes, by making more till there are no more."""
        found = [set() for _ in range(book[0])]
        while True:
            many = sum([len(row) for row in found])
            for con, (result, kids) in enumerate(book[2]):
                for row in list(itertools.product(*[found[kid] for kid in kids])):
                    found[result].add(shape_made(book, webs, con, row))
            if many == sum([len(row) for row in found]):
                return tuple([tuple(sorted(row)) for row in found])

    def test_edges(self):
        self.same(web_states(EMPTY, ("webs", (), ())), ())
        self.same(web_states(NO_CONS, ("webs", (2, 5), ())), ((), ()))
        # An inner node of the row without edges; a door that is lone; a kid whose pair goes round with an edge.
        book = (2, (), ((0, (1,)), (1, ())))
        webs = ("webs", (1, 2), ((3, (0,), ((0, 1, ()), (1, 2, ())), ((1, 2),)), (2, (0, 1), (), ())))
        lets_webs(book, webs)
        self.same(shape_made(book, webs, 0, ((),)), GONE)
        self.same(shape_made(book, webs, 0, (((0, 1),),)), GONE)
        webs = ("webs", (2, 2), ((2, (0, 1), ((0, 1, ()),), ((1, 0),)), (2, (0, 1), (), ())))
        self.same(shape_made(book, webs, 0, ((),)), ((0, 1),))
        self.same(shape_made(book, webs, 0, (((0, 1),),)), GONE)
        self.same(shape_made(book, webs, 0, (((1, 0),),)), GONE)
        # Doors of the result in the middle of a kid's chain part its links.
        webs = ("webs", (3, 3), ((3, (2, 0, 1), (), ((0, 1, 2),)), (3, (0, 1, 2), (), ())))
        self.same(shape_made(book, webs, 0, (((0, 1), (1, 2)),)), ((1, 2), (2, 0)))

    def test_parameters(self):
        bad = (None, (), [((0, 1),)], ([(0, 1)],), (((0, 1),),) * 2, (((0, 2),),), (((0, 1), (1, 0)),), (((1, 1),),),
               (((False, True),),), (((False, False),),), (((0, 0), (0, 0)),), (([0, 0],),), ((None,),), (None,),
               ((0, 1),), 0, "01", (((0, 1, ()),),))
        self.asks(shape_made, {"book": NEST, "webs": NET, "con": 1, "shapes": (((0, 1),),)},
                  {"book": BAD_BOOKS, "webs": BAD_WEBS, "con": (3, -1, True, None, "1"), "shapes": bad})
        self.same(shape_made(NEST, NET, 1, (((1, 0),),)), GONE)
        self.same(shape_made(NEST, NET, 1, (((0, 0),),)), GONE)
        self.not_usable("shapes", shape_made, NEST, NET, 2, (((0, 1),),))
        self.asks(web_states, {"book": NEST, "webs": NET}, {"book": BAD_BOOKS, "webs": BAD_WEBS})


class MadeWebs(Asking):

    def test_example(self):
        form = made_webs(NEST, NET)
        self.same([form[0][0], sorted(form[1])], [2, [0, 1, 2]])

    def test_forms(self):
        said_trees = 0
        for book, webs in web_samples(93, 110):
            form = made_webs(book, webs)
            made, erase, said = form
            self.assertEqual(lets_form(book, form), len(erase))
            self.same(trimmed(made), made)
            self.same(struck(made, said), said)
            self.assertTrue(all([width <= max(1, max(webs[1]) // 2) for width in said[1]]))
            due = {}
            for tree in start_trees(book, 6)[:150]:
                text = row_text(glued(book, webs, tree))
                if text is not None:
                    due[tree] = text
            size = max([len(tree) for tree in start_trees(book, 6)[:150]], default=6)
            size = 6 if len(start_trees(book, 6)) <= 150 else size - 1
            due = {tree: text for tree, text in due.items() if len(tree) <= size}
            trees = start_trees(made, size)
            told = {erased(form, tree): texts_said(made, said, tree)[0] for tree in trees}
            self.assertEqual(told, due)
            self.assertEqual(len(trees), len(due))
            said_trees += len(due)
        self.assertTrue(said_trees > 800, said_trees)

    def test_sorts_and_pieces(self):
        """There is one sort for each sort and shape in start trees that are said; its pieces are chains' words."""
        whole = 0
        for book, webs in web_samples(94, 90):
            made, erase, said = made_webs(book, webs)
            sorts, ways, loud = set(), set(), {}
            for tree in start_trees(book, 5)[:80]:
                if row_text(glued(book, webs, tree)) is None:
                    continue
                nodes = slow_nodes(book, tree)
                told = []
                for node in nodes:
                    links = graph_links(glued(book, webs, node))
                    shape = tuple([pair[:2] for pair in links])
                    key = (book[2][node[0]][0], shape)
                    told.append(key)
                    words = {first: words for first, _, words in links}
                    for chain in chains_of(webs[1][key[0]], shape):
                        text = sum([words[door] for door in chain[:-1]], ())
                        loud.setdefault(key, {}).setdefault(chain, set()).add(text)
                for at, node in enumerate(nodes):
                    place, row = at + 1, []
                    for _ in book[2][node[0]][1]:
                        row.append(told[place])
                        place += len(nodes[place])
                    ways.add((node[0], tuple(row)))
                sorts |= set(told)
            self.assertTrue(len(sorts) <= made[0] and len(ways) <= len(made[2]))
            shown = {node for tree in start_trees(made, 5) for node in tree}
            if len(shown) == len(made[2]) and len(start_trees(book, 5)) <= 80:
                whole += 1
                self.assertEqual((len(sorts), len(ways)), (made[0], len(made[2])))
                self.assertEqual(sorted(erase), sorted([con for con, _ in ways]))
        self.assertTrue(whole > 80, whole)

    def test_pieces_are_chains(self):
        # Sort 1 has two chains, (2, 3) and (4, 1, 0), of which the first one is said behind the other.
        book = (2, (0,), ((0, (1,)), (1, ()), (1, (1,))))
        webs = ("webs", (2, 5), (
            (5, (4, 3), ((0, 2, ("m",)),), ((0, 1, 2, 3, 4),)),
            (5, (0, 1, 2, 3, 4), ((2, 3, ("x",)), (4, 1, ("y",)), (1, 0, ("z",))), ()),
            (6, (0, 1, 2, 3, 4), ((2, 5, ("u",)), (1, 0, ("w",)), (4, 1, ("v",))), ((0, 1, 5, 3, 4),))))
        lets_webs(book, webs)
        # The kid's chain (4, 1, 0) has the edges of the outer row beside it: dead.
        self.same(web_states(book, webs), ((GONE, ((0, 1),)), (GONE, ((1, 0), (2, 3), (4, 1)))))
        form = made_webs(book, webs)
        made, erase, said = form
        self.assertEqual((sorted(erase), sorted(said[1])), ([0, 1], [1, 2]))
        leaf = erase.index(1)
        self.same(said[2][leaf], (("x",), ("y", "z")))
        self.same(said[2][1 - leaf], (((0, 1), "m", (0, 0)),))

    def test_silent_and_lone(self):
        # Kids without chains, and with silent ones alone.
        book = (3, (0,), ((0, (1, 2, 1)), (1, ()), (2, ())))
        webs = ("webs", (2, 1, 2), ((4, (0, 1), ((0, 2, ("a",)), (3, 1, ("b",))), ((2,), (2, 3), (1,))),
                                    (1, (0,), (), ()), (2, (0, 1), ((0, 1, ()),), ())))
        lets_webs(book, webs)
        form = made_webs(book, webs)
        self.assertEqual((form[0][0], form[2][1]), (3, (1, 1, 1)))
        self.same(form[2][2][form[1].index(0)], (("a", "b", (0, 0), (1, 0), (2, 0)),))
        self.same(texts_said(form[0], form[2], start_trees(form[0], 4)[0]), (("a", "b"),))

    def test_edges(self):
        none = (EMPTY, (), ("pieces", (), ()))
        self.same(made_webs(EMPTY, ("webs", (), ())), none)
        self.same(made_webs(NO_CONS, ("webs", (2, 3), ())), none)
        self.same(made_webs(NO_STARTS, ("webs", (1, 1), ((1, (0,), (), ((0,),)), (1, (0,), (), ())))), none)
        # All start trees are dead, or say nothing.
        self.same(made_webs(LEAF, ("webs", (2,), ((2, (0, 1), (), ()),))), none)
        self.same(made_webs(LEAF, ("webs", (2,), ((2, (0, 1), ((1, 0, ("w",)),), ()),))), none)
        self.same(made_webs(LEAF, ("webs", (2,), ((3, (0, 1), ((0, 1, ("w",)),), ()),))), none)
        self.same(made_webs(LEAF, ("webs", (2,), ((3, (2, 1), ((2, 0, ("v",)), (0, 1, ("w",))), ()),))),
                  (LEAF, (0,), ("pieces", (1,), ((("v", "w"),),))))

    def test_large(self):
        made, erase, said = made_webs(NEST, webs_of(NEST, SPLIT))
        tree = (erase.index(0),) + (erase.index(1),) * 998 + (erase.index(2),)
        self.same(texts_said(made, said, tree), (("a",) * 998 + ("b",) * 998,))

    def test_parameters(self):
        self.asks(made_webs, {"book": NEST, "webs": NET}, {"book": BAD_BOOKS, "webs": BAD_WEBS})


class GivenWebs(Asking):

    def test_examples(self):
        self.same(graph_links(glued(NEST, webs_of(NEST, SPLIT), (1, 2))), ((0, 1, ("a",)), (2, 3, ("b",))))
        self.same(graph_links(glued(NEST, webs_of_functions(NEST, MEAN), (1, 2))), ((0, 1, ("a", "b")),))

    def test_pieces(self):
        for book, pieces in random_tongues(95, 150):
            webs = webs_of(book, pieces)
            self.same(lets_webs(book, webs), 2 * max(pieces[1]))
            self.same(webs[1], tuple([2 * width for width in pieces[1]]))
            for sort, rows in enumerate(trees_by_size(book, 5)):
                for tree in [tree for row in rows for tree in row][:20]:
                    texts = slow_texts(book, pieces, tree)
                    graph = glued(book, webs, tree)
                    self.same(graph_links(graph), tuple([(2 * j, 2 * j + 1, text) for j, text in enumerate(texts)]))
                    if sort in book[1]:
                        self.same(row_text(graph), texts[0])

    def test_functions(self):
        for book, functions in function_samples(96, 150):
            webs = webs_of_functions(book, functions)
            lets_webs(book, webs)
            self.same(webs[1], tuple([len(doors_of(ftype)) for ftype in functions[1]]))
            for sort, rows in enumerate(trees_by_size(book, 5)):
                for tree in [tree for row in rows for tree in row][:20]:
                    last = webs[1][sort] - 1
                    links = term_links(tree_term(book, functions, tree))
                    due = tuple(sorted([(last - first, last - other, words) for first, other, words in links]))
                    graph = glued(book, webs, tree)
                    self.assertIs(is_dead(graph), False)
                    self.same(graph_links(graph), due)
                    if sort in book[1]:
                        self.same(row_text(graph), function_text(book, functions, tree))

    def test_edges(self):
        self.same(webs_of(EMPTY, ("pieces", (), ())), ("webs", (), ()))
        self.same(webs_of(NO_CONS, ("pieces", (1, 5), ())), ("webs", (2, 10), ()))
        self.same(webs_of_functions(EMPTY, ("functions", (), ())), ("webs", (), ()))
        self.same(webs_of_functions(NO_CONS, ("functions", (LINE, (0,)), ())), ("webs", (2, 1), ()))
        for webs in (webs_of(LEAF, ("pieces", (1,), ((("v", "w"),),))),
                     webs_of_functions(LEAF, functions_of(LEAF, ("pieces", (1,), ((("v", "w"),),))))):
            self.same(row_text(glued(LEAF, webs, (0,))), ("v", "w"))
        # Kids of types without terms.
        pair = (1, 0, 1, 0, 0)
        book = (3, (0,), ((0, (1, 2)), (0, ())))
        term = (("lam", (0,)), ("lam", pair), ("lam", (0,)), ("app",), ("app",), ("var", 1), ("var", 2), ("var", 0))
        webs = webs_of_functions(book, ("functions", (LINE, (0,), pair), (term, (("word", "w"),))))
        self.same((lets_webs(book, webs), webs[1]), (3, (2, 1, 3)))
        self.same(row_text(glued(book, webs, (1,))), ("w",))

    def test_wide(self):
        # Four kids of width 6: within the limits of sizes and ranks.
        rows = tuple([tuple([(k, p) for k in range(4)]) for p in range(6)])
        book = (2, (0,), ((0, (1,)), (1, (1, 1, 1, 1)), (1, ())))
        top = (("<",) + tuple([(0, p) for p in range(6)]) + (">",),)
        pieces = ("pieces", (1, 6), (top, rows, tuple([(str(p),) for p in range(6)])))
        webs = webs_of(book, pieces)
        self.same(lets_webs(book, webs), 12)
        self.assertTrue(max([row[0] for row in webs[2]]) <= 80)
        tree = (0, 1, 2, 2, 1, 2, 2, 2, 2, 2)
        self.same(row_text(glued(book, webs, tree)), texts_said(book, pieces, tree)[0])

    def test_parameters(self):
        self.asks(webs_of, {"book": NEST, "pieces": SPLIT}, {"book": BAD_BOOKS, "pieces": BAD_PIECES})
        self.asks(webs_of_functions, {"book": NEST, "functions": MEAN}, {"book": BAD_BOOKS, "functions": BAD_FUNCTIONS})


class Mirrored(Asking):

    def test_example(self):
        self.same(mirrored_webs(NEST, NET),
                  ("webs", (2, 2), ((2, (1, 0), (), ((0, 1),)), (4, (0, 1), ((2, 0, ("a",)), (1, 3, ("b",))), ((2, 3),)),
                                    (2, (0, 1), ((1, 0, ()),), ()))))

    def test_trees(self):
        said = 0
        for book, webs in web_samples(97, 80):
            mirrored = mirrored_webs(book, webs)
            self.same(lets_webs(book, mirrored), lets_webs(book, webs))
            self.same(mirrored_webs(book, mirrored), webs)
            for tree in start_trees(book, 5)[:25]:
                text = row_text(glued(book, webs, tree))
                self.same(row_text(glued(book, mirrored, tree)), None if text is None else text[::-1])
                said += text is not None
            for sort, rows in enumerate(trees_by_size(book, 4)):
                if sort in book[1]:
                    continue
                for tree in [tree for row in rows for tree in row][:5]:
                    links = graph_links(glued(book, webs, tree))
                    if links is not None:
                        links = tuple(sorted([(last, first, words[::-1]) for first, last, words in links]))
                    self.same(graph_links(glued(book, mirrored, tree)), links)
        self.assertTrue(said > 300)

    def test_kids_of_start_sorts(self):
        webs = ("webs", (2, 2), ((8, (0, 1), ((0, 2, ("a",)), (3, 4, ("b", "c"))), ((4, 5), (2, 3), (6, 7), (5, 6))),
                                 (2, (0, 1), (), ()), (2, (0, 1), (), ()), (4, (0, 1), (), ((0, 1), (2, 3)))))
        lets_webs(FOUR, webs)
        told = mirrored_webs(FOUR, webs)
        self.same(told[2][0], (8, (1, 0), ((2, 0, ("a",)), (4, 3, ("c", "b"))), ((5, 4), (3, 2), (7, 6), (6, 5))))
        self.same(told[2][3], (4, (1, 0), (), ((1, 0), (3, 2))))
        self.same(mirrored_webs(EMPTY, ("webs", (), ())), ("webs", (), ()))
        inner = ("webs", (1, 2), ((2, (0,), (), ((1, 0),)), (2, (1, 0), ((0, 1, ("v", "w")),), ())))
        self.same(mirrored_webs(NO_STARTS, inner),
                  ("webs", (1, 2), ((2, (0,), (), ((1, 0),)), (2, (1, 0), ((1, 0, ("w", "v")),), ()))))

    def test_parameters(self):
        self.asks(mirrored_webs, {"book": NEST, "webs": NET}, {"book": BAD_BOOKS, "webs": BAD_WEBS})


class Numbers(Asking):

    def test_inner_numbers_do_not_matter(self):
        rng = random.Random(98)
        for book, webs in web_samples(98, 40):
            other = ("webs", webs[1], tuple([mixed(rng, row) for row in webs[2]]))
            self.same(web_states(book, other), web_states(book, webs))
            for tree in start_trees(book, 4)[:10]:
                self.same(graph_links(glued(book, other, tree)), graph_links(glued(book, webs, tree)))

    def test_dead_sort(self):
        webs = webs_of(DEAD, ("pieces", (1, 1, 1), ((((0, 0),),), (("w",),), (((0, 0), (1, 0)),))))
        self.same(web_states(DEAD, webs), ((((0, 1),),), (((0, 1),),), ()))
        self.same(made_webs(DEAD, webs)[0][0], 2)

    def test_binary(self):
        pieces = ("pieces", (1,), ((("x",),), (((1, 0), "y", (0, 0)),)))
        tree = (1,) * 499 + (0,) * 500
        self.same(row_text(glued(PAIRS, webs_of(PAIRS, pieces), tree)), texts_said(PAIRS, pieces, tree)[0])


if __name__ == "__main__":
    unittest.main()
