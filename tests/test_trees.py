"""Trees and contexts [15], [22]."""

import random
import unittest

from everytongue.checkers import lets_tree
from everytongue.errors import NotUsable, TooMuch
from everytongue.trees import (height_of, is_context, is_tree, kids_of, node_tree, parents_of, put_in, sort_around,
                               sort_of, tree_of)
from asking import Asking
from samples import (BAD_BOOKS, BAD_SORTS, BAD_TREES, BOOKS, DEAD, EMPTY, FOUR, NEST, NO_CONS, ODD, PAIRS,
                     random_book, slow_kids, slow_nodes, slow_parse, trees_by_size)



class Trees(Asking):

    def each(self, most=6):
        for book in BOOKS:
            for sort, sizes in enumerate(trees_by_size(book, most)):
                for tree in [tree for size in sizes for tree in size]:
                    yield book, sort, tree

    def test_examples(self):
        self.assertEqual([kids_of(PAIRS, (1, 0, 1, 0, 0)), parents_of(PAIRS, (1, 0, 0))],
                         [((0,), (1, 0, 0)), ((-1, -1), (0, 0), (0, 1))])
        self.assertEqual([tree_of(NEST, 0, (1, 2)), height_of(NEST, (0, 1, 2)), node_tree(NEST, (0, 1, 2), 1)],
                         [(0, 1, 2), 3, (1, 2)])
        self.assertEqual([is_context(NEST, 1, (0, -1)), sort_around(NEST, 1, (0, -1)), put_in((0, -1), (1, 2))],
                         [True, 0, (0, 1, 2)])

    def test_sorts_and_kids(self):
        for book, sort, tree in self.each():
            self.assertEqual(sort_of(book, tree), sort)
            kids = slow_kids(book, tree)
            self.same(kids_of(book, tree), tuple(kids))
            self.same(tree_of(book, tree[0], *kids), tree)
            for other in range(book[0]):
                self.assertIs(is_tree(book, other, tree), other == sort)

    def test_nodes(self):
        for book, _, tree in self.each():
            nodes = slow_nodes(book, tree)
            self.assertEqual([node_tree(book, tree, at) for at in range(len(tree))], nodes)
            parents = [(-1, -1)] * len(tree)
            for at, node in enumerate(nodes):
                end = at + 1
                for k in range(len(slow_kids(book, node))):
                    parents[end] = (at, k)
                    end = slow_parse(book, tree, end)
            self.same(parents_of(book, tree), tuple(parents))

    def test_height(self):
        def slow(book, tree):
            return 1 + max([slow(book, kid) for kid in slow_kids(book, tree)], default=0)
        for book, _, tree in self.each():
            self.assertEqual(height_of(book, tree), slow(book, tree))
        self.assertEqual(height_of(NEST, (1,) * 999 + (2,)), 1000)
        self.assertEqual(height_of(PAIRS, (1, 0) * 499 + (0,)), 500)

    def test_is_tree_of_any_value(self):
        for thing in ODD + BAD_TREES + ((2,), [2], (0, 1, 2, 2)):
            if thing != (0, 2):
                self.assertIs(is_tree(NEST, 0, thing), False, thing)
        self.assertIs(is_tree(NEST, 1, (2,)), True)
        self.assertIs(is_tree(NEST, 1, (1,) * 4999 + (2,)), True)

    def test_tree_of_kids(self):
        good = [(2,), (1,), (3, 2, 2), (2,)]
        self.assertEqual(tree_of(FOUR, 0, *good), (0, 2, 1, 3, 2, 2, 2))
        for many in range(4):
            self.refused(NotUsable, ("kids", many), tree_of, FOUR, 0, *good[:many])
        self.refused(NotUsable, ("kids", 4), tree_of, FOUR, 0, *(good + [(2,)]))
        self.refused(NotUsable, ("kids", 4), tree_of, FOUR, 0, *(good + [None, None]))
        self.refused(NotUsable, ("kids", 0), tree_of, FOUR, 1, ())
        for at in range(4):
            for bad in (None, (), (0,), (2, 2), [2], (-1,), True, "2"):
                wrong = good[:at] + [bad] + good[at + 1:]
                self.refused(NotUsable, ("kids", at), tree_of, FOUR, 0, *wrong)
                self.refused(NotUsable, ("kids", at), tree_of, FOUR, 0, *(wrong[:at + 1] + [None] * (3 - at)))
                self.refused(NotUsable, ("kids", at), tree_of, FOUR, 0, *wrong[:at + 1])
            self.refused(NotUsable, ("kids", at), tree_of, FOUR, 0, *(good[:at] + [[(1,), (2,)][at == 1]] + good[at:]))
        self.assertEqual(tree_of(book=NEST, con=2), (2,))

    def test_tree_of_parameters(self):
        for book in BAD_BOOKS:
            self.not_usable("book", tree_of, book, 0, (1, 2))
            self.not_usable("book", tree_of, book, None)
        for con in (3, -1, True, None, (0,), "0"):
            self.not_usable("con", tree_of, NEST, con, (1, 2))
            self.not_usable("con", tree_of, NEST, con, None, None)
        self.not_usable("con", tree_of, con=0, book=EMPTY)

    def test_tree_of_size(self):
        self.assertEqual(len(tree_of(NEST, 1, (1,) * 998 + (2,))), 1000)
        self.refused(TooMuch, ("tree",), tree_of, NEST, 1, (1,) * 999 + (2,))
        half = (1, 0) * 249 + (0,)
        self.assertEqual(len(tree_of(PAIRS, 1, half, half)), 999)
        self.refused(TooMuch, ("tree",), tree_of, PAIRS, 1, half, (1, 0) * 250 + (0,))

    def test_parameters(self):
        tree = (0, 1, 2)
        bad = {"book": BAD_BOOKS, "tree": BAD_TREES}
        for function in (sort_of, kids_of, height_of, parents_of):
            self.asks(function, {"book": NEST, "tree": tree}, bad)
        self.asks(node_tree, {"book": NEST, "tree": tree, "at": 2}, dict(bad, at=(3, -1, True, None, "0", (0,))))
        for function in (is_tree, is_context):
            good = {"book": NEST, "sort": 1, "thing": None}
            self.asks(function, good, {"book": BAD_BOOKS, "sort": BAD_SORTS}, ("thing",))
        bad = {"book": BAD_BOOKS, "sort": BAD_SORTS,
               "context": ((), (0, 2), (0,), (-1, -1), (1, 0, -1), None, [0, -1], (0, 1, -1, 2), (True, -1), (0, -2))}
        self.asks(sort_around, {"book": NEST, "sort": 1, "context": (0, 1, -1)}, bad)
        self.not_usable("context", sort_around, NEST, 0, (0, -1))


class Contexts(Asking):

    def contexts(self, book, sort, most=6):
        """All trees up to some size with -1 in the place of one tree of the sort."""
        found = {(-1,): sort}
        for around, sizes in enumerate(trees_by_size(book, most)):
            for tree in [tree for size in sizes for tree in size]:
                for at, node in enumerate(slow_nodes(book, tree)):
                    if book[2][node[0]][0] == sort:
                        found[tree[:at] + (-1,) + tree[at + len(node):]] = around if at else sort
        return found

    def test_contexts(self):
        for book in BOOKS:
            for sort in range(book[0]):
                for context, around in self.contexts(book, sort).items():
                    self.assertIs(is_context(book, sort, context), True)
                    self.assertEqual(sort_around(book, sort, context), around)

    def test_no_others(self):
        rng = random.Random(5)
        for book in (NEST, PAIRS, DEAD, FOUR):
            for sort in range(book[0]):
                rows = self.contexts(book, sort, 8)
                for _ in range(400):
                    thing = tuple([rng.randint(-1, len(book[2]) - 1) for _ in range(rng.randint(0, 4))])
                    # A sort without trees has contexts that no tree shows.
                    if sort != 2 or book != DEAD:
                        self.assertIs(is_context(book, sort, thing), thing in rows, (book, sort, thing))

    def test_sort_without_trees(self):
        self.assertIs(is_context(DEAD, 2, (-1,)), True)
        self.assertIs(is_context(DEAD, 2, (2, -1, 1)), True)
        self.assertIs(is_context(DEAD, 2, (0, 2, -1, 1)), True)
        self.assertEqual(sort_around(DEAD, 2, (0, 2, -1, 1)), 0)
        self.assertIs(is_context(DEAD, 1, (2, -1, 1)), False)
        self.assertIs(is_context(NO_CONS, 1, (-1,)), True)
        self.assertEqual(sort_around(NO_CONS, 1, (-1,)), 1)

    def test_any_value(self):
        for thing in ODD + ((0, -1, -1), (0, -1, 2), (-1, -1), (1, 1), [0, -1], (0, [-1]), (0, None), (0, True),
                            ("0", -1), (0, -2), (3, -1), (-1, 0)):
            self.assertIs(is_context(NEST, 1, thing), False, thing)
        self.assertIs(is_context(NEST, 1, (1,) * 4999 + (-1,)), True)

    def test_put_in(self):
        self.same(put_in((0, -1), (1, -1)), (0, 1, -1))
        self.same(put_in((-1,), (2,)), (2,))
        self.same(put_in((5, -1, 6, 7), (-1, 8, -1)), (5, -1, 8, -1, 6, 7))
        bad = {"context": ((), (0, 2), (-1, -1), (0, -1, -1), None, [-1], (-2, -1), (True, -1), ("0", -1), (0, (-1,))),
               "inner": ((), None, [2], (-2,), (True,), ("a",), (None,), ((2,),), 2)}
        self.asks(put_in, {"context": (0, -1), "inner": (1, 2)}, bad)

    def test_put_in_size(self):
        # -1 is no node, be it in the context or in what is put in.
        self.assertEqual(len(put_in((1,) * 999 + (-1,), (2,))), 1000)
        self.refused(TooMuch, ("tree",), put_in, (1,) * 999 + (-1,), (1, 2))
        self.assertEqual(len(put_in((1,) * 1000 + (-1,), (-1,))), 1001)
        self.assertEqual(len(put_in((1,) * 500 + (-1,), (1,) * 500 + (-1,))), 1001)
        self.refused(TooMuch, ("tree",), put_in, (1,) * 500 + (-1,), (1,) * 501 + (-1,))
        self.assertEqual(len(put_in((-1,), (-1,) * 1001)), 1001)

    def test_put_in_twice(self):
        rng = random.Random(8)
        checked = 0
        while checked < 200:
            book = random_book(rng)
            sorts = [rng.randrange(book[0]) for _ in range(2)]
            outer = [c for c, s in self.contexts(book, sorts[0], 4).items()]
            middle = [c for c, s in self.contexts(book, sorts[1], 4).items() if s == sorts[0]]
            inner = [t for size in trees_by_size(book, 4)[sorts[1]] for t in size]
            if not middle or not inner:
                continue
            a, b, c = rng.choice(outer), rng.choice(middle), rng.choice(inner)
            whole = put_in(put_in(a, b), c)
            self.assertEqual(whole, put_in(a, put_in(b, c)))
            self.assertEqual(lets_tree(book, whole), sort_around(book, sorts[0], a))
            checked += 1


if __name__ == "__main__":
    unittest.main()
