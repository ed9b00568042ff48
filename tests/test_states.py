"""States, and who says what another one says [69] to [71], [72], G8."""

import random
import unittest
import unittest.mock

from everytongue.behaviours import behaviour_of
from everytongue.errors import InvalidPaper, TooMuch
from everytongue.gluing import glued
from everytongue.givenwalkers import walker_of
from everytongue.graphs import graph_shape
from everytongue.speaking import says
from everytongue.states import state_made, state_of, state_says, states_of
from everytongue.within import said_within, state_pairs
from everytongue.withinchecker import lets_within
from asking import Asking
from samples import (BAD_BOOKS, BAD_TREES, DEAD, EMPTY, FOUR, MEAN, NEST, NO_CONS, NO_STARTS, ODD, PAIRS, SPLIT, WALK,
                     slow_key, slow_kids, start_trees, trees_by_size)
from waysamples import BAD_TONGUES, HALT, NET, random_walker, slow_says, spoiled_webs, tongue_samples, walker_samples

EMPTY_TONGUES = (("pieces", (), ()), ("functions", (), ()), ("walker", 1, ()), ("webs", (), ()))
TWO = ("walker", 2, ((0, 0, 0, (), 1, 0), (0, 0, 1, (), 0, 0), (0, 1, 0, (), 1, 1), (0, 1, 1, (), 0, 0),
                     (0, 2, 0, (), 0, 0), (1, 0, 1, (), 0, 0), (1, 1, 1, (), 0, 1), (1, 2, 0, (), 0, 1)))


def slow_state(book, tongue, tree):
    """The state of a tree, told by its walks or its graph."""
    if tongue[0] == "walker":
        return behaviour_of(book, tongue, tree)
    return graph_shape(glued(book, tongue, tree)) if tongue[0] == "webs" else ()


class States(Asking):

    def test_example(self):
        self.same((states_of(NEST, WALK), states_of(NEST, SPLIT)), ((((0,),), ((0,),)), (((),), ((),))))

    def test_trees(self):
        for book, tongues in tongue_samples(110, 40):
            for tongue in tongues:
                told = states_of(book, tongue)
                self.assertEqual(len(told), book[0])
                for sort, rows in enumerate(trees_by_size(book, 5)):
                    due = set()
                    for tree in [tree for row in rows for tree in row][:15]:
                        state = slow_state(book, tongue, tree)
                        due.add(state)
                        self.same(state_of(book, tongue, tree), state)
                        kids = tuple([state_of(book, tongue, kid) for kid in slow_kids(book, tree)])
                        self.same(state_made(book, tongue, tree[0], kids), state)
                        if sort in book[1]:
                            self.assertIs(state_says(book, tongue, state), says(book, tongue, tree) is not None)
                    self.assertTrue(due <= set(told[sort]))
                    self.same(told[sort], tuple(sorted(set(told[sort]))))
                self.same(told, self.closed(book, tongue))

    def closed(self, book, tongue):
        found = [set() for _ in range(book[0])]
        while True:
            many = sum([len(row) for row in found])
            for con, (result, kids) in enumerate(book[2]):
                rows = [()]
                for kid in kids:
                    rows = [row + (state,) for row in rows for state in found[kid]]
                found[result] |= {state_made(book, tongue, con, row) for row in rows}
            if many == sum([len(row) for row in found]):
                return tuple([tuple(sorted(row)) for row in found])

    def test_edges(self):
        for tongue in EMPTY_TONGUES:
            self.same(states_of(EMPTY, tongue), ())
        self.same(states_of(NO_CONS, ("pieces", (1, 2), ())), ((), ()))
        self.same(states_of(NO_CONS, ("functions", ((1, 0, 0), (0,)), ())), ((), ()))
        self.same(states_of(DEAD, ("pieces", (1, 1, 1), ((((0, 0),),), (("w",),), (((0, 0), (1, 0)),)))),
                  (((),), ((),), ()))
        # States that no tree has.
        self.same(state_made(NEST, TWO, 1, ((1, 0),)), (0, -1))
        self.same(state_made(NEST, NET, 1, (((1, 0),),)), ((0, 0),))
        self.same(state_made(NEST, SPLIT, 0, ((),)), ())
        self.same(state_made(NEST, MEAN, 2, ()), ())
        self.same(state_of(NEST, WALK, (1,) * 999 + (2,)), (0,))
        self.same(state_of(NEST, NET, (1,) * 999 + (2,)), ((0, 1),))

    def test_state_says(self):
        self.assertIs(state_says(NEST, TWO, (-1, 0)), False)
        self.assertIs(state_says(NEST, TWO, (1, -1)), True)
        self.assertIs(state_says(NEST, NET, ((0, 1),)), True)
        for shape in ((), ((1, 0),), ((0, 0),)):
            self.assertIs(state_says(NEST, NET, shape), False)
        for tongue in (SPLIT, MEAN):
            self.assertIs(state_says(NEST, tongue, ()), True)
        # Without start sorts, too.
        self.assertIs(state_says(NO_STARTS, ("webs", (5, 1), ((5, (0, 1, 2, 3, 4), (), ((0,),)), (1, (0,), (), ()))),
                                 ((0, 1),)), True)
        self.assertIs(state_says(EMPTY, ("webs", (), ()), ()), False)
        self.assertIs(state_says(EMPTY, ("pieces", (), ()), ()), True)
        self.assertIs(state_says(EMPTY, ("walker", 1, ()), (-1,)), False)

    def test_parameters(self):
        cons = (3, -1, True, None, "1")
        self.asks(states_of, {"book": NEST, "tongue": WALK}, {"book": BAD_BOOKS, "tongue": BAD_TONGUES})
        self.asks(state_of, {"book": NEST, "tongue": NET, "tree": (1, 2)},
                  {"book": BAD_BOOKS, "tongue": BAD_TONGUES, "tree": BAD_TREES})
        wrong = (None, 0, True, "", [], "state")
        for tongue, good, bad in ((SPLIT, (), wrong + ((0,), ((0, 1),), ((),))),
                                  (MEAN, (), wrong + ((0,), ((0, 1),))),
                                  (TWO, (0, -1), wrong + ((), (0,), (0, 2), (0, -2), (0, True), (0, None), [0, 0], (0, 0, 0))),
                                  (NET, ((1, 0),), wrong + (((0, 2),), ((1, 1),), ((0, 1), (1, 0)), ((False, 1),), [(0, 1)],
                                                            ((0, 0), (0, 0)), ((False, False),), ([0, 0],), (0, 1)))):
            self.asks(state_says, {"book": NEST, "tongue": tongue, "state": good},
                      {"book": BAD_BOOKS, "tongue": BAD_TONGUES, "state": bad})
            many = wrong + ((good, good), [good]) + tuple([(state,) for state in bad if state != good])
            many = tuple([states for states in many if states != (good,)])
            self.asks(state_made, {"book": NEST, "tongue": tongue, "con": 1, "states": (good,)},
                      {"book": BAD_BOOKS, "tongue": BAD_TONGUES, "con": cons, "states": many})
            self.not_usable("states", state_made, NEST, tongue, 2, (good,))
        # By the rank of the kid's sort; state_says asks for rank 2.
        webs = ("webs", (2, 3), ((3, (0, 1), (), ((0, 1, 2),)), (3, (0, 1, 2), (), ((0, 1, 2),)), (3, (0, 1, 2), (), ())))
        self.same(state_made(NEST, webs, 0, (((0, 2), (2, 1)),)), ((0, 1),))
        self.not_usable("state", state_says, NEST, webs, ((0, 2),))


def slow_within(book, one, other, most):
    """The first start tree of at most so many nodes of which one says something and other nothing, or None."""
    for tree in start_trees(book, most):
        if slow_says(book, one, tree) is not None and slow_says(book, other, tree) is None:
            return tree
    return None


class Within(Asking):

    def test_example(self):
        self.same(said_within(NEST, SPLIT, HALT), ("tree", (0, 1, 2)))

    def test_pairs(self):
        for book, tongues in tongue_samples(111, 25):
            for one in tongues[3:]:
                for other in tongues[4:]:
                    told = state_pairs(book, one, other)
                    for sort, rows in enumerate(trees_by_size(book, 5)):
                        trees = [tree for row in rows for tree in row][:10]
                        due = {(slow_state(book, one, tree), slow_state(book, other, tree)) for tree in trees}
                        self.assertTrue(due <= set(told[sort]))
                        self.same(told[sort], tuple(sorted(set(told[sort]))))
                        self.assertEqual({first for first, _ in told[sort]}, set(states_of(book, one)[sort]))
                        self.assertEqual({second for _, second in told[sort]}, set(states_of(book, other)[sort]))

    def test_first_tree(self):
        """The first tree, in order, or pairs that the checker accepts."""
        rng = random.Random(112)
        trees, withins, late = 0, 0, 0
        for book, tongues in tongue_samples(112, 60):
            if not start_trees(book, 3):
                continue
            walkers = [random_walker(rng, book, states=2, full=0.9) for _ in range(3)]
            for one in tongues[3:] + walkers[:1]:
                for other in tongues[4:] + walkers + [spoiled_webs(rng, book)]:
                    told = said_within(book, one, other)
                    self.same(lets_within(book, one, other, told), told[0])
                    due = slow_within(book, one, other, 5)
                    if told[0] == "within":
                        withins += 1
                        self.same(told, ("within", state_pairs(book, one, other)))
                        self.assertIsNone(due)
                        self.invalid("tree", -1, lets_within, book, one, other, ("tree", (0,)))
                    elif due is not None:
                        trees += 1
                        self.same(told, ("tree", due))
                    else:
                        late += 1
                        self.assertTrue(len(told[1]) > 5)
                        self.assertIsNotNone(says(book, one, told[1]))
                        self.assertIsNone(says(book, other, told[1]))
        self.assertTrue(trees > 150 and withins > 150 and late, (trees, withins, late))

    def test_order(self):
        """Of trees of one size the first one, by roots, by the kids' sizes, by the kids."""
        rng = random.Random(113)
        found = 0
        book = (2, (0, 1), ((0, ()), (0, (0, 1)), (1, (1,)), (1, ()), (1, (0, 0)), (0, (1, 1, 1)), (1, ())))
        for _ in range(120):
            other = random_walker(rng, book, states=2, full=0.85)
            one = random_walker(rng, book, states=2, full=0.99)
            told = said_within(book, one, other)
            due = slow_within(book, one, other, 4)
            if due is not None:
                found += 1
                self.same(told, ("tree", due))
                same = [tree for tree in start_trees(book, 4) if len(tree) == len(due)]
                self.assertEqual(sorted(same, key=lambda tree: slow_key(book, tree)), same)
        self.assertTrue(found > 40, found)

    def test_kid_sizes(self):
        # The walker says what has an even number of layers; of two trees with one layer the one with
        # the lesser first kid stands first, though its first kid's constructor is greater.
        book = (3, (0,), ((0, (1, 2)), (1, (1,)), (2, (2,)), (2, ()), (1, ())))
        rules = [(0, 0, 0, (), 1, 0), (0, 0, 1, (), 2, 0), (1, 0, 1, (), 2, 1), (0, 0, 2, (), 0, 0)]
        for s in range(2):
            rules += [(s, con, 0, (), 1, s) for con in (1, 2)] + [(s, con, 1, (), 0, 1 - s) for con in (1, 2)]
            rules += [(s, con, 0, (), 0, s) for con in (3, 4)]
        one = walker_of(book, ("pieces", (1, 1, 1), ((((0, 0), (1, 0)),), (((0, 0),),), (((0, 0),),), ((),), ((),))))
        other = ("walker", 2, tuple(sorted(rules)))
        self.same(slow_within(book, one, other, 4), (0, 4, 2, 3))
        self.same(said_within(book, one, other), ("tree", (0, 4, 2, 3)))
        self.same(said_within(book, other, one)[0], "within")

    def test_sizes_of_all_kids_first(self):
        # Behind the first kid 3 the walk counts the layers of the second one, behind 4 those of the
        # third one. The tree with the lesser sizes of kids stands first, though its first kid is greater.
        book = (3, (0,), ((0, (1, 2, 2)), (2, (2,)), (2, ()), (1, ()), (1, ())))
        rules = ((0, 0, 0, (), 1, 0), (0, 0, 1, (), 2, 0), (0, 0, 2, (), 0, 0), (0, 0, 3, (), 0, 0), (0, 1, 0, (), 1, 0),
                 (0, 1, 1, (), 0, 1), (0, 2, 0, (), 0, 0), (0, 3, 0, (), 0, 0), (0, 4, 0, (), 0, 1), (1, 0, 1, (), 3, 0),
                 (1, 1, 1, (), 0, 0))
        one = walker_of(book, ("pieces", (1, 1, 1), ((((0, 0), (1, 0), (2, 0)),), (((0, 0),),), ((),), ((),), ((),))))
        self.same(slow_within(book, one, ("walker", 2, rules), 5), (0, 4, 2, 1, 2))
        self.same(said_within(book, one, ("walker", 2, rules)), ("tree", (0, 4, 2, 1, 2)))

    def test_edges(self):
        for one in EMPTY_TONGUES:
            for other in EMPTY_TONGUES:
                self.same(said_within(EMPTY, one, other), ("within", ()))
        nothing = ("walker", 1, ())
        self.same(said_within(NEST, nothing, nothing), ("within", ((((-1,), (-1,)),), (((-1,), (-1,)),))))
        self.same(said_within(NEST, SPLIT, nothing), ("tree", (0, 2)))
        self.same(said_within(NEST, nothing, SPLIT), ("within", ((((-1,), ()),), (((-1,), ()),))))
        self.same(said_within(NO_STARTS, ("pieces", (1, 1), ((((0, 0),),), ((),))), nothing),
                  ("within", ((((), (-1,)),), (((), (-1,)),))))
        self.same(state_pairs(NO_CONS, ("pieces", (1, 1), ()), nothing), ((), ()))
        # Sorts that are not used have pairs, too.
        book = (3, (0,), ((0, ()), (1, ()), (2, (2,))))
        self.same(state_pairs(book, ("pieces", (1, 1, 1), (((),), ((),), (((0, 0),),))), nothing),
                  ((((), (-1,)),), (((), (-1,)),), ()))

    def test_large_trees(self):
        # The walk stops at a chain of just so many nodes.
        for many in (999, 1000):
            chain = tuple([(k, (k + 1,)) for k in range(many)]) + ((many, ()),)
            book = (many + 1, (0,), chain)
            rules = tuple([(0, k, 0, (), 1, 0) for k in range(many)])
            back = tuple([(0, k, 1, (), 0, 0) for k in range(many)])
            one = ("walker", 1, tuple(sorted(rules + back + ((0, many, 0, (), 0, 0),))))
            other = ("walker", 1, rules)
            if many == 999:
                self.same(said_within(book, one, other), ("tree", tuple(range(1000))))
            else:
                self.refused(TooMuch, ("tree",), said_within, book, one, other)
            self.same(said_within(book, other, one)[0], "within")
        # Trees that grow far beyond, kids by kids.
        cons = tuple([(k, (k + 1,) * 4) for k in range(11)]) + ((11, ()),)
        book = (12, (0,), cons)
        said = ("pieces", (1,) * 12, tuple([(tuple([(j, 0) for j in range(4)]),) for _ in range(11)]) + (((),),))
        self.refused(TooMuch, ("tree",), said_within, book, said, ("walker", 1, ()))

    def test_parameters(self):
        good = {"book": NEST, "one": SPLIT, "other": HALT}
        bad = {"book": BAD_BOOKS, "one": BAD_TONGUES, "other": BAD_TONGUES}
        self.asks(state_pairs, good, bad)
        self.asks(said_within, good, bad)


class WithinByStates(Within):
    """The same without a look at small trees."""

    def setUp(self):
        patch = unittest.mock.patch("everytongue.within.first_small", lambda book, erase, holds: ())
        patch.start()
        self.addCleanup(patch.stop)


class LetsWithin(Asking):

    def test_example(self):
        self.same(lets_within(NEST, SPLIT, WALK, ("within", ((((), (0,)),), (((), (0,)),)))), "within")

    def test_shape(self):
        for thing in ODD + (("within",), ("tree",), ("within", (), ()), ["tree", (0, 1, 2)], ("trees", (0, 1, 2)),
                            (("tree",), (0, 1, 2)), (True, ()), ("", ()), (None, None), "tw"):
            self.invalid("shape", -1, lets_within, NEST, SPLIT, HALT, thing)

    def test_tree(self):
        self.same(lets_within(NEST, SPLIT, HALT, ("tree", (0, 1, 2))), "tree")
        # Not the first one, and one of many nodes.
        self.same(lets_within(NEST, SPLIT, HALT, ("tree", (0, 1, 1, 1, 2))), "tree")
        self.same(lets_within(NEST, SPLIT, HALT, ("tree", (0,) + (1,) * 4990 + (2,))), "tree")
        for tree in BAD_TREES + ((0, 2), (2,), (1, 2), (0, 1, 1), None, ((0, 1, 2),), [0, 1, 2], (0, True, 2)):
            self.invalid("tree", -1, lets_within, NEST, SPLIT, HALT, ("tree", tree))
        for one, other in ((HALT, SPLIT), (SPLIT, WALK), (HALT, HALT)):
            self.invalid("tree", -1, lets_within, NEST, one, other, ("tree", (0, 1, 2)))
        # Trees of a sort that is no start sort.
        self.invalid("tree", -1, lets_within, NO_STARTS, ("pieces", (1, 1), ((((0, 0),),), ((),))), ("walker", 1, ()),
                     ("tree", (0, 1)))

    def test_pairs(self):
        first, second = (((), (0,)),), (((), (0,)),)
        for pairs in (None, [first, second], (first,), (first, second, ()), (first, list(second)), (first, None), "ab", 2,
                      ({}, second), (first, "")):
            self.invalid("pairs", -1, lets_within, NEST, SPLIT, WALK, ("within", pairs))
        for wrong in (((),), ((), (0,)), (((), (0,), ()),), ([(), (0,)],), (((), (1,)),), (((), (-2,)),), (((), (False,)),),
                      (((), [0]),), (((), ()),), (((0,), (0,)),), ((None, (0,)),), (((), (0,)), ((), (-1,))),
                      (((), (0,)), ((), (0,))), (((), (0,)), None), (None,), (True,), ("ab",)):
            self.invalid("pairs", 0, lets_within, NEST, SPLIT, WALK, ("within", (wrong, second)))
            self.invalid("pairs", 1, lets_within, NEST, SPLIT, WALK, ("within", (first, wrong)))
            self.invalid("pairs", 0, lets_within, NEST, SPLIT, WALK, ("within", (wrong, wrong)))
        dead, row = ((0, 0),), ((0, 1),)
        for wrong in ((((0, 2),), ()), (((1, 1),), ()), (dead, (0,)), (row + row, ())):
            self.invalid("pairs", 1, lets_within, NEST, NET, SPLIT, ("within", (((row, ()),), (wrong,))))

    def test_open(self):
        told = said_within(NEST, TWO, WALK)
        self.same(lets_within(NEST, TWO, WALK, told), "within")
        for sort in range(2):
            for pair in told[1][sort]:
                less = [list(row) for row in told[1]]
                less[sort].remove(pair)
                pairs = tuple([tuple(row) for row in less])
                due = [con for con in range(3) if self.is_open(NEST, TWO, WALK, con, pairs)]
                self.invalid("open", due[0], lets_within, NEST, TWO, WALK, ("within", pairs))
        self.invalid("open", 2, lets_within, NEST, SPLIT, WALK, ("within", ((), ())))
        # Ahead of ("start", s).
        self.invalid("open", 0, lets_within, NEST, SPLIT, HALT, ("within", ((((), (0,)),), (((), (-1,)), ((), (0,))))))

    def is_open(self, book, one, other, con, pairs):
        result, kids = book[2][con]
        rows = [()]
        for kid in kids:
            rows = [row + (pair,) for row in rows for pair in pairs[kid]]
        for row in rows:
            made = (state_made(book, one, con, tuple([first for first, _ in row])),
                    state_made(book, other, con, tuple([second for _, second in row])))
            if made not in pairs[result]:
                return True
        return False

    def test_more_pairs(self):
        # Pairs that no tree has may be listed, if the list stays closed.
        pairs = ((((), (-1,)), ((), (0,))), (((), (-1,)), ((), (0,))))
        self.invalid("start", 0, lets_within, NEST, SPLIT, WALK, ("within", pairs))
        self.same(lets_within(NEST, WALK, SPLIT, ("within", tuple([tuple([(y, x) for x, y in row]) for row in pairs]))),
                  "within")

    def test_start(self):
        pairs = state_pairs(NEST, SPLIT, HALT)
        self.invalid("start", 0, lets_within, NEST, SPLIT, HALT, ("within", pairs))
        # The first start sort with such a pair; sorts that are no start sorts are not asked.
        book = (3, (1, 2), ((0, ()), (1, ()), (2, ())))
        said = ("pieces", (1, 1, 1), (((),), ((),), ((),)))
        nothing = ("walker", 1, ())
        self.invalid("start", 1, lets_within, book, said, nothing, ("within", state_pairs(book, said, nothing)))
        later = ("walker", 1, ((0, 1, 0, (), 0, 0),))
        self.invalid("start", 2, lets_within, book, said, later, ("within", state_pairs(book, said, later)))

    def test_spoiled(self):
        """A paper that is spoiled in one place is refused, or still a paper; no tree comes beside pairs."""
        rng = random.Random(114)
        words = {}
        for book, tongues in tongue_samples(114, 30):
            for one in tongues[3:]:
                for other in tongues[3:]:
                    told = said_within(book, one, other)
                    pairs = state_pairs(book, one, other)
                    for _ in range(3):
                        rows = [list(row) for row in pairs]
                        sort = rng.randrange(book[0])
                        if rows[sort]:
                            rows[sort].pop(rng.randrange(len(rows[sort])))
                        spoiled = ("within", tuple([tuple(row) for row in rows]))
                        words[self.word(book, one, other, spoiled)] = True
                    if told[0] == "tree":
                        self.assertEqual(self.word(book, one, other, ("within", pairs)), "start")
        self.assertEqual(set(words), {"", "open", "start"})

    def word(self, book, one, other, thing):
        """The word with which thing is refused, as its list of faults tells it."""
        pairs = thing[1]
        due = ("", 0)
        starts = [s for s in book[1] for x, y in pairs[s] if state_says(book, one, x) and not state_says(book, other, y)]
        if starts:
            due = ("start", starts[0])
        cons = [con for con in range(len(book[2])) if self.is_open(book, one, other, con, pairs)]
        if cons:
            due = ("open", cons[0])
        try:
            lets_within(book, one, other, thing)
            self.assertEqual(due[0], "")
        except InvalidPaper as error:
            self.assertEqual((error.word, error.at), due)
        return due[0]

    def test_parameters(self):
        self.asks(lets_within, {"book": NEST, "one": SPLIT, "other": HALT, "thing": ("tree", (0, 1, 2))},
                  {"book": BAD_BOOKS, "one": BAD_TONGUES, "other": BAD_TONGUES}, ("thing",))
        self.not_usable("other", lets_within, NEST, SPLIT, None, None)

    def test_edges(self):
        self.same(lets_within(EMPTY, ("webs", (), ()), ("walker", 1, ()), ("within", ())), "within")
        self.invalid("pairs", -1, lets_within, EMPTY, ("webs", (), ()), ("walker", 1, ()), ("within", ((),)))
        self.same(lets_within(NO_CONS, ("pieces", (1, 1), ()), ("walker", 1, ()), ("within", ((), ()))), "within")
        self.invalid("start", 0, lets_within, NO_CONS, ("pieces", (1, 1), ()), ("walker", 1, ()),
                     ("within", ((((), (-1,)),), ())))


class Samples(Asking):

    def test_four_kids(self):
        rng = random.Random(115)
        for _ in range(10):
            one, other = spoiled_webs(rng, FOUR), random_walker(rng, FOUR, states=2)
            told = said_within(FOUR, one, other)
            self.same(lets_within(FOUR, one, other, told), told[0])
            due = slow_within(FOUR, one, other, 6)
            if due is not None:
                self.same(told, ("tree", due))

    def test_walkers(self):
        for book, walker in walker_samples(116, 30):
            told = said_within(book, walker, ("walker", 1, ()))
            due = slow_within(book, walker, ("walker", 1, ()), 5)
            if due is not None:
                self.same(told, ("tree", due))
            self.same(said_within(book, walker, walker)[0], "within")
        self.same(said_within(PAIRS, HALT[:1] + (1, ()), ("walker", 2, ()))[0], "within")


if __name__ == "__main__":
    unittest.main()
