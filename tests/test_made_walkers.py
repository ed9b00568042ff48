"""Forms of walkers, and walkers of pieces and of functions [49] to [52], G5, G7."""

import unittest

from everytongue.behaviours import behaviour_of
from everytongue.erasing import erased
from everytongue.formchecker import lets_form
from everytongue.ftypes import doors_of
from everytongue.givenfunctions import functions_of
from everytongue.givenwalkers import walker_of, walker_of_functions
from everytongue.madewalkers import made_walker
from everytongue.reaching import met_rules
from everytongue.saying import texts_said
from everytongue.silents import struck
from everytongue.termchecker import lets_functions
from everytongue.trimming import is_trimmed, trimmed
from everytongue.visits import visits_of
from everytongue.walkerchecker import lets_walker
from everytongue.walking import walk_steps, walk_text
from everytongue.wires import term_links
from everytongue.worths import function_text
from asking import Asking
from samples import (BAD_BOOKS, BAD_FUNCTIONS, BAD_PIECES, EMPTY, FOUR, MEAN, NEST, NO_CONS, NO_STARTS, PAIRS, SPLIT,
                     WALK, function_samples, random_tongues, slow_nodes, slow_texts, start_trees, trees_by_size)
from waysamples import BAD_WALKERS, HALT, walker_samples

LINE = (1, 0, 0)
LEAF = (1, (0,), ((0, ()),))


class MadeWalker(Asking):

    def test_example(self):
        self.same(made_walker(NEST, WALK)[0][0], 2)

    def test_forms(self):
        said_trees = 0
        for book, walker in walker_samples(70, 90):
            form = made_walker(book, walker)
            made, erase, said = form
            self.assertEqual(lets_form(book, form), len(erase))
            self.same(trimmed(made), made)
            self.same(struck(made, said), said)
            self.assertTrue(all([width <= walker[1] for width in said[1]]))
            due = {}
            for tree in start_trees(book, 6):
                text = walk_text(book, walker, tree)
                if text is not None:
                    due[tree] = text
            trees = start_trees(made, 6)
            told = {erased(form, tree): texts_said(made, said, tree)[0] for tree in trees}
            self.assertEqual(told, due)
            self.assertEqual(len(trees), len(due))
            said_trees += len(due)
        self.assertTrue(said_trees > 1000)

    def test_sorts_and_constructors(self):
        """There is one sort, and one constructor, for each triple that comes in start trees that are said."""
        whole = 0
        for book, walker in walker_samples(71, 90):
            made, erase, said = made_walker(book, walker)
            sorts, ways = set(), set()
            for tree in start_trees(book, 6):
                visits = visits_of(book, walker, tree)
                if visits is None:
                    continue
                nodes = slow_nodes(book, tree)
                told = [behaviour_of(book, walker, node) for node in nodes]
                entered = [tuple([before for before, _ in row]) for row in visits]
                for at, node in enumerate(nodes):
                    sorts.add((book[2][node[0]][0], told[at], entered[at]))
                    place, row = at + 1, []
                    for _ in book[2][node[0]][1]:
                        row.append(told[place])
                        place += len(nodes[place])
                    ways.add((node[0], tuple(row), entered[at]))
            self.assertTrue(len(sorts) <= made[0] and len(ways) <= len(made[2]))
            shown = {node for tree in start_trees(made, 6) for node in tree}
            if len(shown) == len(made[2]):
                whole += 1
                self.assertEqual((len(sorts), len(ways)), (made[0], len(made[2])))
                self.assertEqual(sorted(erase), sorted([con for con, _, _ in ways]))
        self.assertTrue(whole > 100, whole)

    def test_widths(self):
        # A kid that is visited twice, one time silently; then said twice.
        book = (2, (0,), ((0, (1,)), (1, ()), (1, (1,))))
        rules = ((0, 0, 0, (), 1, 0), (0, 0, 1, ("m",), 1, 1), (0, 1, 0, (), 0, 0), (0, 2, 0, (), 1, 0),
                 (0, 2, 1, (), 0, 0), (1, 0, 1, (), 0, 1), (1, 1, 0, ("x",), 0, 1), (1, 2, 0, ("y",), 1, 1),
                 (1, 2, 1, (), 0, 1))
        form = made_walker(book, ("walker", 2, rules))
        self.assertEqual(form[2][1], (1, 1))
        told = {erased(form, tree): texts_said(form[0], form[2], tree)[0] for tree in start_trees(form[0], 4)}
        self.assertEqual(told, {(0, 1): ("m", "x"), (0, 2, 1): ("m", "y", "x"), (0, 2, 2, 1): ("m", "y", "y", "x")})
        rules = tuple([rule[:3] + ((("l",) if rule[0] == 0 and rule[1] else rule[3]),) + rule[4:] for rule in rules])
        form = made_walker(book, ("walker", 2, rules))
        self.assertEqual(sorted(form[2][1]), [1, 2])

    def test_kids_not_entered(self):
        # The walk does not enter the kid: its trees stay, in pieces that are struck.
        over = ("walker", 1, ((0, 0, 0, ("w",), 0, 0), (0, 2, 0, ("v",), 0, 0)))
        form = made_walker(NEST, over)
        made, erase, said = form
        self.same(struck(made, said), said)
        told = {erased(form, tree): texts_said(made, said, tree)[0] for tree in start_trees(made, 5)}
        self.assertEqual(told, {tree: ("w",) for tree in start_trees(NEST, 5)})
        self.assertEqual(said[1], (1,) * made[0])
        # By another behaviour another sort: trees of sort 1 that the walk would leave, or not.
        self.assertEqual((made[0], sorted(erase)), (3, [0, 0, 1, 1, 2]))

    def test_edges(self):
        none = (EMPTY, (), ("pieces", (), ()))
        for book in (EMPTY, NO_CONS, NO_STARTS, NEST, FOUR):
            self.same(made_walker(book, ("walker", 2, ())), none)
        form = made_walker(NEST, HALT)
        self.same(start_trees(form[0], 6), [tuple([form[1].index(0), form[1].index(2)])])
        self.same(texts_said(form[0], form[2], start_trees(form[0], 2)[0]), ((),))
        self.same(made_walker(LEAF, ("walker", 5, ((0, 0, 0, ("w",), 0, 4),))),
                  (LEAF, (0,), ("pieces", (1,), ((("w",),),))))

    def test_large(self):
        form = made_walker(NEST, walker_of(NEST, SPLIT))
        made, erase, said = form
        self.assertEqual((made[0], sorted(erase), sorted(said[1])), (2, [0, 1, 2], [1, 2]))
        tree = (erase.index(0),) + (erase.index(1),) * 998 + (erase.index(2),)
        self.same(texts_said(made, said, tree), (("a",) * 998 + ("b",) * 998,))

    def test_parameters(self):
        self.asks(made_walker, {"book": NEST, "walker": WALK}, {"book": BAD_BOOKS, "walker": BAD_WALKERS})


class WalkerOf(Asking):

    def test_example(self):
        self.same(walker_of(NEST, SPLIT)[2][:3], ((0, 0, 0, (), 1, 0), (0, 0, 1, (), 1, 1), (0, 1, 0, ("a",), 1, 0)))

    def test_rules(self):
        """Each rule tells what stands behind the beginning of a piece, or behind a slot."""
        for book, pieces in random_tongues(72, 150):
            walker = walker_of(book, pieces)
            self.assertEqual(lets_walker(book, walker), len(walker[2]))
            self.assertEqual(walker[1], max(pieces[1]))
            due = set()
            for con, row in enumerate(pieces[2]):
                for j, piece in enumerate(row):
                    cuts = [k for k, item in enumerate(piece) if isinstance(item, tuple)] + [len(piece)]
                    begins = [(j, con, 0)] + [(piece[cut][1], con, piece[cut][0] + 1) for cut in cuts[:-1]]
                    for begin, first, last in zip(begins, [0] + [cut + 1 for cut in cuts], cuts):
                        goes = (0, j) if last == len(piece) else (piece[last][0] + 1, piece[last][1])
                        due.add(begin + (piece[first:last],) + goes)
            self.assertEqual(len(due), len(walker[2]))
            self.assertEqual(due, set(walker[2]))

    def test_says(self):
        for book, pieces in random_tongues(73, 150):
            walker = walker_of(book, pieces)
            for sort, rows in enumerate(trees_by_size(book, 5)):
                for tree in [tree for row in rows for tree in row][:20]:
                    for j, text in enumerate(slow_texts(book, pieces, tree)):
                        word, steps = walk_steps(book, walker, tree, j)
                        self.assertEqual(word, "ended")
                        self.assertEqual(behaviour_of(book, walker, tree)[j], j)
                        rules = {rule[:3]: rule for rule in walker[2]}
                        words = [rules[(state, tree[node], came)][3] for node, state, came in steps]
                        self.same(sum(words, ()), text)
                    if sort in book[1]:
                        self.same(walk_text(book, walker, tree), slow_texts(book, pieces, tree)[0])

    def test_all_rules_are_met(self):
        trimmed_ones = 0
        for book, pieces in random_tongues(74, 300):
            if is_trimmed(book):
                trimmed_ones += 1
                walker = walker_of(book, pieces)
                self.same(met_rules(book, walker), tuple(range(len(walker[2]))))
        self.assertTrue(trimmed_ones > 20)

    def test_edges(self):
        self.same(walker_of(EMPTY, ("pieces", (), ())), ("walker", 1, ()))
        self.same(walker_of(NO_CONS, ("pieces", (1, 5), ())), ("walker", 5, ()))
        self.same(walker_of(LEAF, ("pieces", (1,), (((),),))), ("walker", 1, ((0, 0, 0, (), 0, 0),)))
        self.same(walker_of(LEAF, ("pieces", (1,), ((("v", "w"),),))), ("walker", 1, ((0, 0, 0, ("v", "w"), 0, 0),)))

    def test_parameters(self):
        self.asks(walker_of, {"book": NEST, "pieces": SPLIT}, {"book": BAD_BOOKS, "pieces": BAD_PIECES})


class WalkerOfFunctions(Asking):

    def test_example(self):
        self.same(walker_of_functions(NEST, MEAN), WALK)

    def test_rules(self):
        for book, functions in function_samples(75, 120):
            walker = walker_of_functions(book, functions)
            self.assertEqual(lets_walker(book, walker), len(walker[2]))
            signs = [doors_of(ftype) for ftype in functions[1]]
            counts = [row.count(sign) for row in signs for sign in (True, False)]
            self.assertEqual(walker[1], max(counts + [1]))
            due = set()
            for con, (result, kids) in enumerate(book[2]):
                # Each door of the term: its came or to, and its number among its like, from the right.
                spots = []
                for at, sort in list(enumerate(kids, 1)) + [(0, result)]:
                    for k, sign in enumerate(signs[sort]):
                        spots.append((at, signs[sort][k + 1:].count(sign)))
                for first, last, words in term_links(functions[2][con]):
                    (came, state), (to, further) = spots[first], spots[last]
                    due.add((state, con, came, words, to, further))
            self.assertEqual(due, set(walker[2]))
            self.assertEqual(len(due), len(walker[2]))

    def test_says(self):
        for book, functions in function_samples(76, 150):
            walker = walker_of_functions(book, functions)
            for tree in start_trees(book, 5)[:40]:
                self.same(walk_text(book, walker, tree), function_text(book, functions, tree))
            if is_trimmed(book):
                self.same(met_rules(book, walker), tuple(range(len(walker[2]))))

    def test_there_and_back(self):
        for book, pieces in random_tongues(77, 60):
            walker = walker_of_functions(book, functions_of(book, pieces))
            for tree in start_trees(book, 5)[:20]:
                self.same(walk_text(book, walker, tree), slow_texts(book, pieces, tree)[0])

    def test_edges(self):
        self.same(walker_of_functions(EMPTY, ("functions", (), ())), ("walker", 1, ()))
        self.same(walker_of_functions(NO_CONS, ("functions", (LINE, (0,)), ())), ("walker", 1, ()))
        # Sorts without constructors count, too: here one with three doors that are not positive.
        self.same(walker_of_functions(NO_CONS, ("functions", (LINE, (1, 0, 1, 0, 1, 0, 0)), ())), ("walker", 3, ()))
        # Kids of types without terms.
        pair = (1, 0, 1, 0, 0)
        book = (3, (0,), ((0, (1, 2)), (0, ())))
        term = (("lam", (0,)), ("lam", pair), ("lam", (0,)), ("app",), ("app",), ("var", 1), ("var", 2), ("var", 0))
        functions = ("functions", (LINE, (0,), pair), (term, (("word", "w"),)))
        self.assertEqual(lets_functions(book, functions), 1)
        walker = walker_of_functions(book, functions)
        self.same(walker, ("walker", 2, ((0, 0, 0, (), 2, 0), (0, 0, 2, (), 0, 0), (0, 1, 0, ("w",), 0, 0),
                                         (1, 0, 2, (), 1, 0))))
        self.same(walk_text(book, walker, (1,)), ("w",))
        self.same(walker_of_functions(LEAF, ("functions", (LINE,), ((("word", "w"),),))),
                  ("walker", 1, ((0, 0, 0, ("w",), 0, 0),)))

    def test_parameters(self):
        self.asks(walker_of_functions, {"book": NEST, "functions": MEAN},
                  {"book": BAD_BOOKS, "functions": BAD_FUNCTIONS})


class Large(Asking):

    def test_binary(self):
        pieces = ("pieces", (1,), ((("x",),), (((1, 0), "y", (0, 0)),)))
        tree = (1,) * 499 + (0,) * 500
        self.same(walk_text(PAIRS, walker_of(PAIRS, pieces), tree), texts_said(PAIRS, pieces, tree)[0])
        functions = functions_of(PAIRS, pieces)
        self.same(walk_text(PAIRS, walker_of_functions(PAIRS, functions), tree), texts_said(PAIRS, pieces, tree)[0])


if __name__ == "__main__":
    unittest.main()
