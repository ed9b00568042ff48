"""Used sorts and constructors, trimmed books [16], [22], G1."""

import random
import unittest

from everytongue.checkers import lets_book
from everytongue.trees import is_context, sort_around
from everytongue.trimming import live_sorts, looping_sorts, trimmed, used_cons, used_sorts
from asking import Asking
from samples import (BAD_BOOKS, BOOKS, DEAD, EMPTY, FOUR, NEST, NO_CONS, NO_STARTS, PAIRS, random_book, start_trees,
                     trees_by_size)



def slow_live(book):
    """Sorts with trees, told by taking in constructors again and again."""
    live = set()
    for _ in range(book[0] + 1):
        live |= {result for result, kids in book[2] if set(kids) <= live}
    return live


def slow_used(book):
    """Used constructors and sorts, told by walking down from start sorts, again and again."""
    live = slow_live(book)
    used = set(book[1]) & live
    for _ in range(book[0]):
        for result, kids in book[2]:
            if result in used and set(kids) <= live:
                used |= set(kids)
    cons = [k for k, (result, kids) in enumerate(book[2]) if result in used and set(kids) <= live]
    return tuple(sorted(used)), tuple(cons)


class Trimming(Asking):

    def books(self, many=600):
        rng = random.Random(16)
        yield from BOOKS
        for _ in range(many):
            yield random_book(rng, sorts=5, cons=8)

    def test_examples(self):
        told = [live_sorts(DEAD), used_cons(DEAD), trimmed(DEAD), looping_sorts(NEST)]
        self.assertEqual(told, [(0, 1), (0, 1), (2, (0,), ((0, (1,)), (1, ()))), (1,)])

    def test_edges(self):
        for book in (EMPTY, NO_CONS, NO_STARTS, (3, (0, 1, 2), ((0, (0,)), (1, (2,))))):
            self.same(trimmed(book), (0, (), ()))
            self.same(used_sorts(book), ())
            self.same(used_cons(book), ())
            self.same(looping_sorts(book), ())
        self.same(live_sorts(NO_STARTS), (0, 1))
        self.same(live_sorts(EMPTY), ())
        self.same(used_sorts(FOUR), (0, 1))
        self.same(looping_sorts(FOUR), (0, 1))
        self.same(looping_sorts(PAIRS), (0,))
        self.same(looping_sorts((1, (0,), ((0, ()), (0, (0, 0, 0, 0))))), (0,))
        # A start sort without trees goes, and constructors with a kid of such a sort.
        self.same(trimmed((3, (0, 1), ((1, ()), (1, (0,)), (0, (2,)), (2, (2,))))), (1, (0,), ((0, ()),)))

    def test_against_slow(self):
        for book in self.books():
            self.same(live_sorts(book), tuple(sorted(slow_live(book))))
            sorts, cons = slow_used(book)
            self.same(used_sorts(book), sorts)
            self.same(used_cons(book), cons)

    def test_trimmed(self):
        for book in self.books():
            less = trimmed(book)
            sorts, cons = slow_used(book)
            self.assertEqual(lets_book(less), len(cons))
            self.assertEqual(less[0], len(sorts))
            self.same(less[1], tuple([k for k, sort in enumerate(sorts) if sort in book[1]]))
            for k, con in enumerate(cons):
                result, kids = book[2][con]
                self.same(less[2][k], (sorts.index(result), tuple([sorts.index(kid) for kid in kids])))
            self.same(trimmed(less), less)
            self.same(used_cons(less), tuple(range(len(less[2]))))

    def test_same_start_trees(self):
        rng = random.Random(3)
        for _ in range(100):
            book = random_book(rng)
            cons = used_cons(book)
            less = [tuple([cons[con] for con in tree]) for tree in start_trees(trimmed(book), 5)]
            self.assertEqual(sorted(less), sorted(start_trees(book, 5)))

    def test_looping(self):
        for book in self.books(300):
            sorts, cons = slow_used(book)
            leads = {sort: set() for sort in sorts}
            for con in cons:
                leads[book[2][con][0]] |= set(book[2][con][1])
            for _ in range(book[0]):
                for sort in sorts:
                    leads[sort] |= {far for near in leads[sort] for far in leads[near]}
            self.same(looping_sorts(book), tuple([sort for sort in sorts if sort in leads[sort]]))

    def test_looping_shows_contexts(self):
        for book in self.books(60):
            less = trimmed(book)
            sorts = used_sorts(book)
            for sort in looping_sorts(less):
                self.assertIn(sorts[sort], looping_sorts(book))
                trees = [tree for size in trees_by_size(less, 6)[sort] for tree in size]
                found = [tree[:at] + (-1,) + tree[at + n:] for tree in trees for at in range(1, len(tree))
                         for n in range(1, len(tree))]
                if trees and len(trees[-1]) > 5:
                    contexts = [c for c in found if is_context(less, sort, c)]
                    self.assertTrue(any(sort_around(less, sort, c) == sort for c in contexts))

    def test_parameters(self):
        for function in (live_sorts, used_sorts, used_cons, trimmed, looping_sorts):
            self.asks(function, {"book": DEAD}, {"book": BAD_BOOKS})

    def test_large(self):
        size = 3000
        cons = tuple([(k, (k + 1,)) for k in range(size - 1)]) + ((size - 1, ()), (size - 1, (7,)))
        book = (size, (0,), cons)
        self.assertEqual(live_sorts(book), tuple(range(size)))
        self.assertEqual(looping_sorts(book), tuple(range(7, size)))
        self.assertEqual(trimmed(book), book)


if __name__ == "__main__":
    unittest.main()
