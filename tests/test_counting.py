"""Counts, order and numbers of trees, least trees and contexts [17], [18], [19], [22]."""

import math
import random
import time
import unittest

from everytongue.checkers import lets_tree
from everytongue.errors import NotUsable, TooMuch
from everytongue.leasttrees import least_context, least_size, least_tree
from everytongue.numbering import drawn_tree, nth_tree, order_key, tree_number
from everytongue.treecounts import count_trees, size_counts
from everytongue.trees import is_context, put_in, sort_around
from everytongue.trimming import looping_sorts, trimmed, used_sorts
from asking import Asking
from samples import (BAD_BOOKS, BAD_SORTS, BAD_TREES, BOOKS, DEAD, EMPTY, FOUR, NEST, NO_CONS, NO_STARTS, PAIRS,
                     random_book, slow_key, slow_nodes, start_trees, trees_by_size, trees_of)

BAD_NUMBERS = (-1, True, None, "0", (0,), [0])


def samples(seed, many):
    rng = random.Random(seed)
    yield from BOOKS
    for _ in range(many):
        yield random_book(rng)


def fan(leaves, sorts):
    """A book whose start sort 0 makes four kids of the next sort, and so on; the last sort has leaves."""
    cons = tuple([(sort, (sort + 1,) * 4) for sort in range(sorts)])
    return (sorts + 1, (0,), cons + ((sorts, ()),) * leaves)


def layered(kids, *more):
    """A book of full binary trees: one sort has just one tree, of close to a thousand nodes."""
    twins = tuple([(k, (k - 1, k - 1)) for k in range(1, 9)])
    return (12, (9,), ((0, ()), (9, (8, 7, 6, 10)), (10, (5, 4, 2, 11)), (11, kids)) + twins + more)


class Counts(Asking):

    def test_examples(self):
        self.assertEqual([size_counts(PAIRS, 0, 5), count_trees(NEST), count_trees(DEAD)],
                         [(0, 1, 0, 1, 0, 2), None, 1])

    def test_sizes(self):
        for book in samples(17, 150):
            rows = trees_by_size(book, 6)
            for sort in range(book[0]):
                counts = tuple([len(row) for row in rows[sort]])
                for most in (0, 1, 3, 6):
                    self.same(size_counts(book, sort, most), counts[:most + 1])

    def test_more_sizes(self):
        # Binary trees, and trees with a free choice of fewer than five kids.
        catalan = size_counts(PAIRS, 0, 61)
        self.assertEqual(catalan[61], 3814986502092304)
        self.assertEqual(catalan[60], 0)
        mixed = size_counts((1, (0,), tuple([(0, (0,) * k) for k in range(5)])), 0, 12)
        self.assertEqual(mixed[:7], (0, 1, 1, 2, 5, 14, 41))
        self.assertEqual(len(size_counts(FOUR, 0, 400)), 401)

    def test_count_trees(self):
        def slow(book, sort):
            rows = [kids for result, kids in book[2] if result == sort]
            return sum([math.prod([slow(book, kid) for kid in kids]) for kids in rows])
        for book in samples(171, 400):
            if looping_sorts(book):
                self.assertIsNone(count_trees(book))
            else:
                less = trimmed(book)
                self.same(count_trees(book), sum([slow(less, start) for start in less[1]]))
                small = [tree for tree in start_trees(less, 5)]
                self.assertTrue(len(small) <= count_trees(book))

    def test_endless_is_looping(self):
        # G1: endlessly many start trees exactly if there are start trees larger than any without a ring.
        for book in samples(172, 100):
            if count_trees(book) is None:
                sizes = {len(tree) for tree in start_trees(book, 7)}
                self.assertTrue(max(sizes) > 1)

    def test_no_trees(self):
        for book in (EMPTY, NO_CONS, NO_STARTS):
            self.same(count_trees(book), 0)
        self.same(size_counts(NO_CONS, 1, 3), (0, 0, 0, 0))

    def test_limit(self):
        # 10 ** 4000 = (10 ** 1000) ** 4, and 10 ** 1000 = 10 ** (4 ** 4 * 3 + 4 ** 3 * 3 + 4 ** 2 * 2 + 4 * 2).
        powers = fan(10, 5)
        self.assertEqual(count_trees(powers), 10 ** 1024)
        below = (powers[0] + 1, (6,), powers[2] + ((6, (0, 0, 0)), ))
        self.assertEqual(count_trees(below), 10 ** 3072)
        just = below[2][:-1] + ((6, (0, 0, 0, 7)), (7, (1, 1, 1, 8)), (8, (2, 2, 9)), (9, (3, 3)))
        book = (10, (6,), just)
        self.assertEqual(3 * 1024 + 3 * 256 + 2 * 64 + 2 * 16, 4000)
        self.refused(TooMuch, ("count",), count_trees, book)
        less = (10, (6,), just[:-1] + ((9, (3, 4, 4, 4)), (9, (4, 4, 4, 4)), ))
        self.assertEqual(count_trees(less), 10 ** 3968 * (10 ** 28 + 10 ** 16))

    def test_just_below(self):
        # 10 ** 4000 - 1 is 9 times (1 + 10 + .. + 10 ** 3999); here by sorts s -> digit 9, or ten times the rest.
        size = 4000
        cons = [(2 * k, (2 * k + 2, size * 2)) for k in range(size - 1)]
        cons += [(2 * k, ()) for k in range(size) for _ in range(9)]
        cons += [(2 * size, ())] * 10
        book = (2 * size + 1, (0,), tuple(cons))
        self.assertEqual(count_trees(book), 10 ** 4000 - 1)
        self.refused(TooMuch, ("count",), count_trees, (2 * size + 1, (0,), tuple(cons) + ((0, ()),)))
        self.assertEqual(count_trees((2 * size + 1, (2 * size,), tuple(cons))), 10)

    def test_huge(self):
        self.refused(TooMuch, ("count",), count_trees, fan(29, 11))
        self.assertEqual(count_trees(fan(1, 11)), 1)
        self.assertIsNone(count_trees((12, (0,), fan(29, 11)[2] + ((11, (0,)),))))

    def test_bound_of_other_counts(self):
        # Beyond the limits of sizes and books; no count of this size is returned.
        wide = (1, (0,), ((0, (0,)),) * 100 + ((0, ()),))
        self.assertEqual(size_counts(wide, 0, 2000)[2000], 100 ** 1999)
        self.refused(TooMuch, ("count",), size_counts, wide, 0, 2001)
        wider = (1, (0,), ((0, (0,)),) * 12000 + ((0, ()),))
        self.refused(TooMuch, ("count",), tree_number, wider, (1,) * 999 + (12000,))
        self.refused(TooMuch, ("tree",), drawn_tree, NEST, 1, 1001, 0)
        self.assertEqual(len(drawn_tree(NEST, 1, 1000, 0)), 1000)

    def test_parameters(self):
        self.asks(count_trees, {"book": DEAD}, {"book": BAD_BOOKS})
        self.asks(size_counts, {"book": NEST, "sort": 0, "most": 4},
                  {"book": BAD_BOOKS, "sort": BAD_SORTS, "most": BAD_NUMBERS})


class Order(Asking):

    def test_examples(self):
        self.assertEqual([order_key(PAIRS, (1, 0, 0)), tree_number(PAIRS, (1, 1, 0, 0, 0))], [(3, 1, 1, 1, 0, 0), 3])
        self.assertEqual([nth_tree(PAIRS, 0, 2), drawn_tree(PAIRS, 0, 5, 7)], [(1, 0, 1, 0, 0), (1, 1, 0, 0, 0)])

    def test_keys(self):
        for book in samples(18, 60):
            for sort in range(book[0]):
                for tree in trees_of(book, sort, 6):
                    sizes = [len(node) for node in slow_nodes(book, tree)]
                    key = [len(tree)]
                    for at, node in enumerate(slow_nodes(book, tree)):
                        key.append(tree[at])
                        place = at + 1
                        for _ in book[2][node[0]][1]:
                            key.append(sizes[place])
                            place += sizes[place]
                    self.same(order_key(book, tree), tuple(key))

    def test_keys_order_all_trees(self):
        for book in samples(181, 60):
            trees = [tree for rows in trees_by_size(book, 5) for row in rows for tree in row]
            by_key = sorted(trees, key=lambda tree: order_key(book, tree))
            self.assertEqual(by_key, sorted(trees, key=lambda tree: slow_key(book, tree)))

    def test_numbers(self):
        for book in samples(182, 120):
            for sort in range(book[0]):
                trees = trees_of(book, sort, 6)
                for number, tree in enumerate(trees):
                    self.same(tree_number(book, tree), number)
                    self.same(nth_tree(book, sort, number), tree)

    def test_last_number(self):
        for book in samples(183, 300):
            for sort in range(book[0]):
                many = count_trees((book[0], (sort,), book[2]))
                if many is not None:
                    self.not_usable("number", nth_tree, book, sort, many)
                    self.not_usable("number", nth_tree, book, sort, 10 ** 59)
                    if many:
                        self.assertEqual(tree_number(book, nth_tree(book, sort, many - 1)), many - 1)
                elif many is None:
                    tree = nth_tree(book, sort, 40)
                    self.assertEqual((lets_tree(book, tree), tree_number(book, tree)), (sort, 40))

    def test_large_numbers(self):
        for number in (10 ** 20 + 7, 10 ** 59, 10 ** 60 - 1):
            for book in (PAIRS, FOUR, (3, (0,), ((0, (1, 1)), (1, (2, 0)), (2, ()), (0, ())))):
                tree = nth_tree(book, 0, number)
                self.assertEqual(tree_number(book, tree), number)
                later = nth_tree(book, 0, number + 1)
                self.assertTrue(order_key(book, tree) < order_key(book, later))

    def test_size_of_nth(self):
        self.assertEqual(nth_tree(NEST, 0, 998), (0,) + (1,) * 998 + (2,))
        self.assertEqual(nth_tree(NEST, 1, 999), (1,) * 999 + (2,))
        self.refused(TooMuch, ("tree",), nth_tree, NEST, 0, 999)
        self.refused(TooMuch, ("tree",), nth_tree, NEST, 1, 1000)
        self.refused(TooMuch, ("tree",), nth_tree, NEST, 1, 10 ** 59)
        self.assertEqual(tree_number(NEST, (1,) * 999 + (2,)), 999)
        # Just one tree, too large; the next one is none.
        self.refused(TooMuch, ("tree",), nth_tree, fan(1, 5), 0, 0)
        self.not_usable("number", nth_tree, fan(1, 5), 0, 1)
        self.assertEqual(len(nth_tree(fan(1, 4), 0, 0)), 341)
        self.not_usable("number", nth_tree, fan(1, 4), 0, 1)
        self.not_usable("number", nth_tree, fan(2, 4), 1, 2 ** 64)
        self.assertEqual(len(nth_tree(fan(2, 4), 1, 2 ** 64 - 1)), 85)

    def test_large_ones(self):
        """Trees of close to a thousand nodes are told soon, one after another."""
        start = time.perf_counter()
        for kids, size in (((0, 0), 999), ((1,), 1000), ((0, 1), 1001), ((0, 0, 1), 1002), ((1, 0), 1001)):
            for book, number in ((layered(kids), 0), (layered(kids, (9, ())), 1)):
                for _ in range(10):
                    if size > 1000:
                        self.refused(TooMuch, ("tree",), nth_tree, book, 9, number)
                    else:
                        tree = nth_tree(book, 9, number)
                    self.not_usable("number", nth_tree, book, 9, number + 1)
                if size <= 1000:
                    self.assertEqual((len(tree), lets_tree(book, tree), tree_number(book, tree)), (size, 9, number))
                if number:
                    self.same(nth_tree(book, 9, 0), (12,))
        self.assertTrue(time.perf_counter() - start < 10)

    def test_large_and_many(self):
        # Chains side by side: many trees of each size, of some hundred nodes.
        start = time.perf_counter()
        book = (4, (0,), ((0, (1, 2, 3)),) + tuple([(k, (k,)) for k in (1, 2, 3)]) + tuple([(k, ()) for k in (1, 2, 3)]))
        for number in range(0, 10 ** 8, 10 ** 7 + 1):
            tree = nth_tree(book, 0, number)
            self.assertEqual(tree_number(book, tree), number)
        self.assertTrue(len(tree) > 700)
        # Kids ahead and behind that are large, in turn.
        for kids in ((0, 1), (1, 0)):
            book = (2, (0,), ((0, kids), (0, ()), (1, ())))
            tree = nth_tree(book, 0, 499)
            self.assertEqual((len(tree), tree_number(book, tree)), (999, 499))
            self.refused(TooMuch, ("tree",), nth_tree, book, 0, 500)
        self.assertTrue(time.perf_counter() - start < 10)

    def test_drawn(self):
        for book in samples(184, 120):
            rows = trees_by_size(book, 6)
            for sort in range(book[0]):
                for size in range(7):
                    trees = sorted(rows[sort][size], key=lambda tree: slow_key(book, tree))
                    if not trees:
                        self.not_usable("size", drawn_tree, book, sort, size, 0)
                        self.not_usable("size", drawn_tree, book, sort, size, None)
                    for number in list(range(len(trees) + 2))[:20] if trees else []:
                        self.same(drawn_tree(book, sort, size, number), trees[number % len(trees)])
        many = size_counts(PAIRS, 0, 201)[201]
        self.assertEqual(drawn_tree(PAIRS, 0, 201, 10 ** 59), drawn_tree(PAIRS, 0, 201, 10 ** 59 % many))
        self.assertEqual(len(drawn_tree(PAIRS, 0, 399, 10 ** 59)), 399)
        self.assertEqual(drawn_tree(NEST, 1, 400, 10 ** 59), (1,) * 399 + (2,))

    def test_parameters(self):
        self.asks(order_key, {"book": NEST, "tree": (0, 1, 2)}, {"book": BAD_BOOKS, "tree": BAD_TREES})
        self.asks(tree_number, {"book": NEST, "tree": (0, 1, 2)}, {"book": BAD_BOOKS, "tree": BAD_TREES})
        good = {"book": NEST, "sort": 0, "number": 3}
        self.asks(nth_tree, good, {"book": BAD_BOOKS, "sort": BAD_SORTS, "number": BAD_NUMBERS})
        good = {"book": NEST, "sort": 0, "size": 3, "number": 3}
        bad = {"book": BAD_BOOKS, "sort": BAD_SORTS, "size": BAD_NUMBERS + (0, 1), "number": BAD_NUMBERS}
        self.asks(drawn_tree, good, bad)

    def test_later_inside_is_later(self):
        rng = random.Random(22)
        checked = 0
        while checked < 300:
            book = random_book(rng)
            sort = rng.randrange(book[0])
            trees = trees_of(book, sort, 6)
            if len(trees) < 2:
                continue
            outer = rng.choice(trees)
            at = rng.randrange(len(outer))
            node = slow_nodes(book, outer)[at]
            others = trees_of(book, book[2][node[0]][0], 6)
            other = rng.choice(others)
            whole = outer[:at] + other + outer[at + len(node):]
            later = order_key(book, other) > order_key(book, node)
            self.assertEqual(order_key(book, whole) > order_key(book, outer), later)
            checked += 1


class Least(Asking):

    def test_examples(self):
        self.assertEqual([least_size(NEST, 0), least_tree(NEST, 0), least_context(NEST, 1)], [2, (0, 2), (0, -1)])

    def test_trees(self):
        for book in samples(19, 300):
            for sort in range(book[0]):
                trees = trees_of(book, sort, 7)
                size, tree = least_size(book, sort), least_tree(book, sort)
                if trees:
                    self.same((size, tree), (len(trees[0]), trees[0]))
                else:
                    self.assertTrue(size is None or size > 7)
                    self.assertEqual(size is None, tree is None)

    def test_contexts(self):
        for book in samples(191, 300):
            rows = trees_by_size(book, 5)
            for sort in range(book[0]):
                context = least_context(book, sort)
                self.assertEqual(context is None, sort not in used_sorts(book))
                if context is None:
                    continue
                self.assertIs(is_context(book, sort, context), True)
                self.assertIn(sort_around(book, sort, context), book[1])
                for around in book[1]:
                    for tree in [tree for row in rows[around] for tree in row]:
                        for node in slow_nodes(book, tree):
                            if book[2][node[0]][0] == sort:
                                self.assertTrue(len(context) - 1 <= len(tree) - len(node))

    def test_starts_alone(self):
        self.same(least_context(NEST, 0), (-1,))
        self.same(least_context(FOUR, 1), (-1,))
        # A start sort without trees is not used.
        self.assertIsNone(least_context(NO_CONS, 0))
        self.assertIsNone(least_context(DEAD, 2))
        self.assertIsNone(least_context(NO_STARTS, 0))

    def test_sizes(self):
        big = fan(1, 5)
        self.assertEqual(least_size(big, 0), 1365)
        self.refused(TooMuch, ("tree",), least_tree, big, 0)
        self.assertEqual(len(least_tree(big, 1)), 341)
        self.refused(TooMuch, ("tree",), least_context, big, 5)
        self.refused(TooMuch, ("tree",), least_context, big, 1)
        self.assertEqual(least_context((6, (1,), big[2]), 1), (-1,))
        self.assertEqual(least_size(fan(1, 11), 0), (4 ** 12 - 1) // 3)

    def test_thousand(self):
        # Contexts and trees of just 1000 nodes, and of 1001.
        for more, error in ((0, False), (1, True)):
            size = 1000 + more
            cons = tuple([(k, (k + 1,)) for k in range(size - 1)]) + ((size - 1, ()),)
            book = (size + 1, (0,), cons[:-1] + ((size - 1, (size,)), (size, ())))
            if error:
                self.refused(TooMuch, ("tree",), least_context, book, size)
                self.refused(TooMuch, ("tree",), least_tree, (size, (0,), cons), 0)
            else:
                self.assertEqual(least_context(book, size), tuple(range(size)) + (-1,))
                self.assertEqual(least_tree((size, (0,), cons), 0), tuple(range(size)))

    def test_kids_ahead_and_behind(self):
        book = (4, (0,), ((0, (1, 2, 3, 1)), (1, ()), (2, (1, 3)), (3, (1,))))
        self.same(least_context(book, 2), (0, 1, -1, 3, 1, 1))
        self.same(least_context(book, 3), (0, 1, 2, 1, 3, 1, -1, 1))
        self.same(put_in(least_context(book, 1), least_tree(book, 1)), least_tree(book, 0))

    def test_parameters(self):
        for function in (least_size, least_tree, least_context):
            self.asks(function, {"book": NEST, "sort": 1}, {"book": BAD_BOOKS, "sort": BAD_SORTS})
            self.assertRaises(NotUsable, function, EMPTY, 0)


if __name__ == "__main__":
    unittest.main()
