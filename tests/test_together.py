"""Tongues put together [28], [32]."""

import itertools
import unittest

from everytongue.checkers import lets_book
from everytongue.piecechecker import lets_pieces
from everytongue.saying import texts_said
from everytongue.together import again, behind, either
from asking import Asking
from samples import BAD_BOOKS, DEAD, EMPTY, FOUR, NEST, NO_CONS, NO_STARTS, PAIRS, SPLIT, random_tongues, start_trees

WORDS = ("pieces", (1,), ((("x",),), (((1, 0), "y", (0, 0)),)))
BAD_ONES = (None, ("pieces", (1, 2)), ("pieces", (1, True), SPLIT[2]), ["pieces", (1, 2), SPLIT[2]], WORDS)
BAD_OTHERS = (None, ("pieces", (1,)), ("pieces", (True,), WORDS[2]), SPLIT)


def raise_tree(tree, by):
    return tuple([con + by for con in tree])


class Together(Asking):

    def pairs(self):
        for (book, one), (second, other) in zip(random_tongues(28, 150), random_tongues(29, 150)):
            yield book, one, second, other

    def said(self, book, pieces, most):
        """Each start tree up to some size with its text."""
        return {tree: texts_said(book, pieces, tree)[0] for tree in start_trees(book, most)}

    def test_example(self):
        self.assertEqual(again(NEST, SPLIT)[0], (3, (2,), ((0, (1,)), (1, (1,)), (1, ()), (2, ()), (2, (0, 2)))))

    def test_either(self):
        self.same(either(NEST, SPLIT, PAIRS, WORDS),
                  ((3, (0, 2), NEST[2] + ((2, ()), (2, (2, 2)))), ("pieces", (1, 2, 1), SPLIT[2] + WORDS[2])))
        for book, one, second, other in self.pairs():
            made, said = either(book, one, second, other)
            lets_book(made)
            lets_pieces(made, said)
            due = self.said(book, one, 5)
            for tree, text in self.said(second, other, 5).items():
                due[raise_tree(tree, len(book[2]))] = text
            self.assertEqual(self.said(made, said, 5), due)

    def test_behind(self):
        made, said = behind(NEST, SPLIT, PAIRS, WORDS)
        self.same(made, (4, (3,), NEST[2] + ((2, ()), (2, (2, 2)), (3, (0, 2)))))
        self.same(said, ("pieces", (1, 2, 1, 1), SPLIT[2] + WORDS[2] + ((((0, 0), (1, 0)),),)))
        for book, one, second, other in self.pairs():
            made, said = behind(book, one, second, other)
            lets_pieces(made, said)
            self.assertEqual((made[0], made[1]), (book[0] + second[0] + 1, (book[0] + second[0],)))
            most = 6
            due = {}
            cons = list(itertools.product(book[1], second[1]))
            for tree, text in self.said(book, one, most - 2).items():
                for then, further in self.said(second, other, most - 2).items():
                    if len(tree) + len(then) < most:
                        pair = (book[2][tree[0]][0], second[2][then[0]][0])
                        con = len(book[2]) + len(second[2]) + cons.index(pair)
                        due[(con,) + tree + raise_tree(then, len(book[2]))] = text + further
            self.assertEqual(self.said(made, said, most), due)

    def test_behind_constructors(self):
        made, said = behind(FOUR, ("pieces", (1, 1), (
            (((0, 0), (1, 0), (2, 0), (3, 0)),), ((),), ((),), (((0, 0), (1, 0)),))), PAIRS, WORDS)
        self.same(made[2][-2:], ((3, (0, 2)), (3, (1, 2))))
        double = either(PAIRS, WORDS, PAIRS, WORDS)
        made, said = behind(*double, *double)
        self.same(made[2][-4:], ((4, (0, 2)), (4, (0, 3)), (4, (1, 2)), (4, (1, 3))))
        self.same(said[2][-4:], ((((0, 0), (1, 0)),),) * 4)

    def test_again(self):
        made, said = again(NEST, SPLIT)
        self.same(said, ("pieces", (1, 2, 1), SPLIT[2] + (((),), (((0, 0), (1, 0)),))))
        for book, one in random_tongues(30, 150):
            made, said = again(book, one)
            lets_pieces(made, said)
            most = 6
            base = len(book[2])
            due = {(base,): ()}
            fresh = dict(due)
            while fresh:
                later = {}
                for tree, text in self.said(book, one, most - 2).items():
                    con = base + 1 + book[1].index(book[2][tree[0]][0])
                    for rest, end in fresh.items():
                        if 1 + len(tree) + len(rest) <= most:
                            later[(con,) + tree + rest] = text + end
                due.update(later)
                fresh = later
            self.assertEqual(self.said(made, said, most), due)

    def test_edges(self):
        none = ("pieces", (), ())
        self.same(either(EMPTY, none, EMPTY, none), (EMPTY, none))
        self.same(behind(EMPTY, none, EMPTY, none), ((1, (0,), ()), ("pieces", (1,), ())))
        self.same(again(EMPTY, none), ((1, (0,), ((0, ()),)), ("pieces", (1,), (((),),))))
        one = ("pieces", (2, 1), ((((0, 0),), ()), (("x",),)))
        self.same(behind(NO_STARTS, one, PAIRS, WORDS)[0], (4, (3,), NO_STARTS[2] + ((2, ()), (2, (2, 2)))))
        self.same(again(NO_STARTS, one)[0], (3, (2,), NO_STARTS[2] + ((2, ()),)))
        self.same(either(NO_CONS, ("pieces", (1, 2), ()), PAIRS, WORDS),
                  ((3, (0, 2), ((2, ()), (2, (2, 2)))), ("pieces", (1, 2, 1), WORDS[2])))

    def test_parameters(self):
        good = {"book": NEST, "one": SPLIT, "second": PAIRS, "other": WORDS}
        bad = {"book": BAD_BOOKS, "one": BAD_ONES, "second": BAD_BOOKS, "other": BAD_OTHERS}
        self.asks(either, good, bad)
        self.asks(behind, good, bad)
        self.asks(again, {"book": NEST, "one": SPLIT}, {"book": BAD_BOOKS, "one": BAD_ONES})
        self.not_usable("one", either, DEAD, SPLIT, PAIRS, WORDS)


if __name__ == "__main__":
    unittest.main()
