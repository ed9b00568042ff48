"""Checkers of books and trees [14]."""

import unittest

from everytongue.checkers import lets_book, lets_tree
from everytongue.errors import NotUsable
from asking import Asking
from samples import BOOKS, EMPTY, FOUR, NEST, ODD, PAIRS, trees_by_size


class LetsBook(Asking):

    def test_books(self):
        for book in BOOKS:
            self.assertEqual(lets_book(book), len(book[2]))
        self.assertEqual(lets_book(thing=NEST), 3)

    def test_large(self):
        self.assertEqual(lets_book((10 ** 59, (0, 10 ** 59 - 1), ((10 ** 58, (5, 5, 5, 5)),))), 1)
        self.assertEqual(lets_book((1, (0,), ((0, ()),) * 1000)), 1000)
        self.invalid("starts", -1, lets_book, (10 ** 59, (10 ** 59,), ()))

    def test_shape(self):
        for thing in ODD + ((1, ()), (1, (), (), ()), [1, (), ()], "abc", ((), (), ())[:2]):
            self.invalid("shape", -1, lets_book, thing)

    def test_size(self):
        for size in (-1, True, None, "1", (1,), [1]):
            self.invalid("size", -1, lets_book, (size, (), ()))
            self.invalid("size", -1, lets_book, (size, None, None))

    def test_starts(self):
        for starts in ((2,), (-1,), (0, 0), (1, 0), (True,), (None,), [0], 0, "0", ((0,),), (0, "1"), (0, 1, 2)):
            self.invalid("starts", -1, lets_book, (2, starts, ()))
            self.invalid("starts", -1, lets_book, (2, starts, None))
        self.invalid("starts", -1, lets_book, (0, (0,), ()))

    def test_cons(self):
        for cons in (None, [], "", 0, [(0, ())]):
            self.invalid("cons", -1, lets_book, (2, (0, 1), cons))

    def test_con(self):
        for con in ((), (0,), (0, (), ()), [0, ()], (2, ()), (-1, ()), (True, ()), ("0", ()), (0, []), (0, None),
                    (0, 0), None, 0, (2, (5,)), (0, [9])):
            self.invalid("con", 0, lets_book, (2, (0,), (con,)))
            self.invalid("con", 2, lets_book, (2, (0,), ((0, ()), (1, (0,)), con, (1, (7,)))))

    def test_kids(self):
        for kids in ((2,), (-1,), (0, 1, 0, 1, 0), (True,), (None,), ("0",), ((0,),), ([],), (0, 1, 2), (9,) * 5):
            self.invalid("kids", 0, lets_book, (2, (0,), ((0, kids),)))
            self.invalid("kids", 1, lets_book, (2, (0,), ((0, (0, 1, 0, 1)), (1, kids), None)))


class LetsTree(Asking):

    def test_example(self):
        self.invalid("end", 2, lets_tree, NEST, (0, 1))

    def test_trees(self):
        for book in BOOKS:
            for sort, sizes in enumerate(trees_by_size(book, 5)):
                for tree in [tree for size in sizes for tree in size]:
                    self.assertEqual(lets_tree(book, tree), sort)
        self.assertEqual(lets_tree(thing=(0, 1, 2), book=NEST), 0)
        self.assertEqual(lets_tree(NEST, (1,) * 4999 + (2,)), 1)

    def test_shape(self):
        for thing in (None, True, "", "a", 0, [0, 2], [], -1):
            self.invalid("shape", -1, lets_tree, NEST, thing)

    def test_end(self):
        self.invalid("end", 0, lets_tree, NEST, ())
        self.invalid("end", 0, lets_tree, EMPTY, ())
        self.invalid("end", 4, lets_tree, PAIRS, (1, 1, 0, 0))
        self.invalid("end", 3, lets_tree, FOUR, (0, 2, 1))
        self.invalid("end", 5000, lets_tree, NEST, (1,) * 5000)

    def test_node(self):
        for node in (3, -1, True, None, "2", (2,), [2], 0, 10 ** 59):
            self.invalid("node", 1, lets_tree, NEST, (0, node))
            self.invalid("node", 2, lets_tree, NEST, (1, 1, node, 2, 2))
        for node in (3, -1, True, None, "2", (2,), [2], 10 ** 59):
            self.invalid("node", 0, lets_tree, NEST, (node,))
            self.invalid("node", 0, lets_tree, NEST, (node, 2, 2))
        self.invalid("node", 0, lets_tree, EMPTY, (0,))
        self.invalid("node", 4, lets_tree, FOUR, (0, 2, 1, 2, 1))

    def test_more(self):
        for thing in ((2, 2), (2, None), (2, []), (2, -1, 0), (2, "x", "y")):
            self.invalid("more", 1, lets_tree, NEST, thing)
        self.invalid("more", 3, lets_tree, PAIRS, (1, 0, 0, 0))

    def test_book_first(self):
        for book in ODD:
            self.refused(NotUsable, ("book", -1), lets_tree, book, (0, 2))
            self.refused(NotUsable, ("book", -1), lets_tree, book, None)
        self.not_usable("book", lets_tree, thing=(2,), book=(2, (True,), NEST[2]))


if __name__ == "__main__":
    unittest.main()
