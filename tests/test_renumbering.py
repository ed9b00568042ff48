"""Other numbers, and trees in lines [20], [21], [22]."""

import random
import unittest

from everytongue.checkers import lets_tree
from everytongue.errors import InvalidText, TooMuch
from everytongue.renumbering import renumbered, renumbered_tree
from everytongue.treelines import read_tree, tree_line
from asking import Asking
from samples import BAD_BOOKS, BAD_TREES, BOOKS, EMPTY, FOUR, NEST, PAIRS, random_book, trees_by_size



class Renumbering(Asking):

    def test_example(self):
        self.assertEqual([renumbered(NEST, (1, 0), (2, 0, 1)), renumbered_tree(NEST, (0, 1, 2), (2, 0, 1))],
                         [(2, (1,), ((0, (0,)), (0, ()), (1, (0,)))), (2, 0, 1)])

    def test_against_definition(self):
        rng = random.Random(20)
        for _ in range(200):
            book = random_book(rng, sorts=5, cons=7)
            sorts = rng.sample(range(book[0]), book[0])
            cons = rng.sample(range(len(book[2])), len(book[2]))
            other = renumbered(book, tuple(sorts), tuple(cons))
            self.assertEqual(other[0], book[0])
            self.same(other[1], tuple(sorted([sorts[start] for start in book[1]])))
            for con, (result, kids) in enumerate(book[2]):
                self.same(other[2][cons[con]], (sorts[result], tuple([sorts[kid] for kid in kids])))
            for sort, rows in enumerate(trees_by_size(book, 4)):
                for tree in [tree for row in rows for tree in row]:
                    moved = renumbered_tree(book, tree, tuple(cons))
                    self.same(moved, tuple([cons[con] for con in tree]))
                    self.assertEqual(lets_tree(other, moved), sorts[sort])
            back = [sorts.index(sort) for sort in range(book[0])], [cons.index(con) for con in range(len(cons))]
            self.same(renumbered(other, tuple(back[0]), tuple(back[1])), book)

    def test_empty(self):
        self.same(renumbered(EMPTY, (), ()), EMPTY)

    def test_parameters(self):
        orders = ((0, 1), (0, 1, 2, 3), (0, 1, 1), (1, 2, 3), (0, 1, -1), (0, True, 2), [0, 1, 2], None, (0, 1, "2"))
        sorts = ((0,), (0, 0), (1, 2), (0, 1, 2), (False, True), [0, 1], None, (), "01")
        good = {"book": NEST, "sort_order": (1, 0), "con_order": (2, 0, 1)}
        self.asks(renumbered, good, {"book": BAD_BOOKS, "sort_order": sorts, "con_order": orders})
        good = {"book": NEST, "tree": (0, 1, 2), "con_order": (2, 0, 1)}
        self.asks(renumbered_tree, good, {"book": BAD_BOOKS, "tree": BAD_TREES, "con_order": orders})


class Lines(Asking):

    def invalid_text(self, field, book, text):
        self.refused(InvalidText, (0, field), read_tree, book, text)

    def test_example(self):
        self.invalid_text(2, NEST, "0 1")

    def test_lines(self):
        self.assertEqual(tree_line((0, 10, 2)), "0 10 2")
        self.assertEqual(tree_line((0,)), "0")
        self.assertEqual(tree_line((10 ** 60 - 1, 7)), "9" * 60 + " 7")
        self.assertEqual(tree_line((0,) * 1000), " ".join(["0"] * 1000))

    def test_there_and_back(self):
        for book in BOOKS:
            for rows in trees_by_size(book, 6):
                for tree in [tree for row in rows for tree in row]:
                    self.same(read_tree(book, tree_line(tree)), tree)
        wide = (1, (0,), ((0, (0, 0)),) * 12 + ((0, ()),) * 8)
        self.same(read_tree(wide, "10 12 19"), (10, 12, 19))

    def test_first_field(self):
        for text in ("", " ", "3", "-1", "+0", "00", "0.0", "x", "02", " 0 2", "\n0 2", "0\n", "0_0", "9" * 60,
                     "9" * 61, "9" * 7000, "0,2", "a" * 8000, "1e0", "0x1", "\t", "\u0661", "\u00b2"):
            self.invalid_text(0, NEST, text)
            self.invalid_text(0, NEST, text + " 2")
        self.invalid_text(0, EMPTY, "")
        self.invalid_text(0, EMPTY, "0")

    def test_later_fields(self):
        for field in ("", "3", "0", "-2", "+2", "02", "x", "2\n", "\n", "9" * 61, "2,"):
            self.invalid_text(1, NEST, "0 " + field)
            self.invalid_text(2, NEST, "0 1 " + field + " 2")
        self.invalid_text(1, NEST, "0  2")
        self.invalid_text(4, FOUR, "0 2 1 2 1")

    def test_behind(self):
        for field in ("", "2", "x", "0", "-1"):
            self.invalid_text(1, NEST, "2 " + field)
            self.invalid_text(3, PAIRS, "1 0 0 " + field)
            self.invalid_text(3, PAIRS, "1 0 0 " + field + " 0 x")

    def test_not_whole(self):
        self.invalid_text(1, NEST, "0")
        self.invalid_text(4, PAIRS, "1 1 0 0")
        self.invalid_text(4000, NEST, " ".join(["1"] * 4000))

    def test_size(self):
        self.assertEqual(len(read_tree(NEST, "1 " * 999 + "2")), 1000)
        self.refused(TooMuch, ("tree",), read_tree, NEST, "1 " * 1000 + "2")
        self.refused(TooMuch, ("tree",), read_tree, NEST, "1 " * 3000 + "2")
        self.invalid_text(1001, NEST, "1 " * 1000 + "2 2")
        self.invalid_text(1000, NEST, "1 " * 1000 + "x")

    def test_parameters(self):
        bad = ((), None, [0], "0", (True,), (-1,), (None,), ("0",), ((0,),), (0, -1), 0, (0, False))
        self.asks(tree_line, {"tree": (0, 1)}, {"tree": bad})
        self.asks(read_tree, {"book": NEST, "text": "0 2"},
                  {"book": BAD_BOOKS, "text": (None, 0, ("0", "2"), ["0 2"], True, (0, 2))})


if __name__ == "__main__":
    unittest.main()
