"""Checkers, and functions that tell whether a value is of a kind, take any value [12]."""

import random
import unittest

from everytongue.alike import alike
from everytongue.alikechecker import lets_alike
from everytongue.chains import is_shape
from everytongue.checkers import lets_book, lets_tree
from everytongue.errors import InvalidPaper
from everytongue.formchecker import is_form, lets_form
from everytongue.ftypes import is_type
from everytongue.graphs import is_graph
from everytongue.growth import growth
from everytongue.growthchecker import lets_growth
from everytongue.kinds import is_number, is_quotient, is_text, is_word
from everytongue.lexicons import is_lexicon, is_name
from everytongue.machinechecker import lets_machine
from everytongue.noreading import lets_no_reading, no_reading
from everytongue.notranslation import lets_no_translation, no_translation
from everytongue.patterns import is_pattern
from everytongue.piecechecker import lets_pieces
from everytongue.termchecker import lets_functions, lets_term
from everytongue.terms import is_term
from everytongue.tonguechecker import lets_tongue
from everytongue.trees import is_context, is_tree
from everytongue.twists import is_twist
from everytongue.walkerchecker import lets_walker
from everytongue.webchecker import lets_webs
from everytongue.within import said_within
from everytongue.withinchecker import lets_within
from samples import MEAN, NEST, SPLIT, WALK
from waysamples import HALT, MACHINE, NET

FORM = (NEST, (0, 1, 2), SPLIT)
TWIST = ("recode", (("a", ("c", "d")), ("b", ())))
LEAVES = (None, True, False, 0, 1, 2, 3, -1, -2, 10 ** 59, -10 ** 59, "", "a", "b", "app", "lam", "var", "word",
          "pieces", "functions", "walker", "same", "mirror", "recode", (), [], (0,), (1, 0, 0), ("app",), "a b",
          "x" * 17, "0", "webs", "within", "tree", "any", "then", "again", ((0, 0),), ((0, 1),))
GRAPH = (3, 4, ((2, 3, ("a",)), (3, 0, ("b", "c")), (0, 1, ())))
SHAPE = ((0, 3), (2, 5), (5, 0))
PATTERN = ("again", ("or", ("then", ("word", "a"), ("any",)), ("then", ("empty",), ("word", "z"))))
WITHIN = said_within(NEST, NET, WALK)
FEW = ((2, (0,), ((0, (1, 1)), (1, ()), (1, ()))), (0, 1, 2),
       ("pieces", (1, 1), ((((0, 0), (1, 0)),), (("a",),), ((),))))
# Papers, each with its checker.
PAPERS = ((no_reading(NEST, SPLIT, ("a",)), lambda thing: lets_no_reading(NEST, SPLIT, ("a",), thing)),
          (no_translation(NEST, SPLIT, ("a", "b"), HALT), lambda value: lets_no_translation(NEST, SPLIT, ("a", "b"), HALT, value)),
          (no_translation(NEST, SPLIT, ("b",), HALT), lambda value: lets_no_translation(NEST, SPLIT, ("b",), HALT, value)),
          (growth(FEW), lambda thing: lets_growth(FEW, thing)),
          (growth(FORM), lambda thing: lets_growth(FORM, thing)),
          (alike(NEST, NET, WALK, ("same",)), lambda value: lets_alike(NEST, NET, WALK, ("same",), value)),
          (alike(NEST, SPLIT, WALK, ("mirror",)), lambda value: lets_alike(NEST, SPLIT, WALK, ("mirror",), value)))
LEXICON = (("s", "a"), ("top", "wrap", "end"))
CHECKERS = (lets_book, lets_term, lambda thing: lets_tree(NEST, thing), lambda thing: lets_pieces(NEST, thing),
            lambda thing: lets_functions(NEST, thing), lambda thing: lets_form(NEST, thing),
            lambda thing: lets_walker(NEST, thing), lambda thing: lets_webs(NEST, thing),
            lambda thing: lets_tongue(NEST, thing), lambda thing: lets_within(NEST, NET, WALK, thing),
            lambda thing: lets_within(NEST, SPLIT, HALT, thing), lets_machine) + tuple([check for _, check in PAPERS])
TESTS = (is_number, is_word, is_text, is_quotient, is_type, is_term, is_form, is_twist, is_graph, is_pattern, is_name,
         lambda thing: is_lexicon(NEST, thing),
         lambda thing: is_shape(6, thing), lambda thing: is_tree(NEST, 1, thing),
         lambda thing: is_context(NEST, 1, thing))
GOOD = (NEST, (0, 1, 2), SPLIT, MEAN, FORM, WALK, TWIST, MEAN[2][1], (1, 0, 0), (1, 1, 2), (1, -1), ("a", "b"), (2, 3),
        NET, MACHINE, GRAPH, SHAPE, PATTERN, WITHIN, said_within(NEST, SPLIT, HALT))
# What is spoiled, one by one.
SPOILED = GOOD + (LEXICON, "top") + tuple([paper for paper, _ in PAPERS])


def any_value(rng, depth):
    """Any value, nested at most so deep."""
    if depth == 0 or rng.random() < 0.4:
        return rng.choice(LEAVES)
    things = [any_value(rng, depth - 1) for _ in range(rng.randint(0, 4))]
    return things if rng.random() < 0.2 else tuple(things)


def spoiled(rng, thing):
    """The thing with something else somewhere in it."""
    if not isinstance(thing, tuple) or not thing or rng.random() < 0.15:
        return any_value(rng, 2)
    at = rng.randrange(len(thing))
    pick = rng.random()
    if pick < 0.08:
        return list(thing)
    if pick < 0.16:
        return thing[:at] + thing[at + 1:]
    if pick < 0.24:
        return thing[:at] + (any_value(rng, 1),) + thing[at:]
    if pick < 0.3:
        return thing[::-1]
    return thing[:at] + (spoiled(rng, thing[at]),) + thing[at + 1:]


class AnyValue(unittest.TestCase):

    def ask(self, thing):
        for checker in CHECKERS:
            try:
                checker(thing)
            except InvalidPaper as error:
                self.assertIsInstance(error.word, str)
                self.assertTrue(type(error.at) is int and error.at >= -1)
        for test in TESTS:
            self.assertIn(test(thing), (True, False))
            self.assertIs(type(test(thing)), bool)

    def test_any(self):
        rng = random.Random(12)
        for _ in range(3000):
            self.ask(any_value(rng, 5))

    def test_spoiled(self):
        rng = random.Random(13)
        for thing in SPOILED:
            self.ask(thing)
            for _ in range(800):
                self.ask(spoiled(rng, thing))

    def test_agree(self):
        rng = random.Random(14)
        for thing in (MEAN[2][1], FORM):
            for _ in range(2000):
                other = spoiled(rng, thing)
                told = []
                for checker in (lets_term, lambda value: lets_form(NEST, value)):
                    try:
                        checker(other)
                        told.append("")
                    except InvalidPaper as error:
                        told.append(error.word)
                self.assertEqual(is_term(other), told[0] not in ("shape", "end", "token", "more"))
                if told[1] == "":
                    self.assertIs(is_form(other), True)
                if told[1] in ("shape", "made", "said", "erase"):
                    self.assertIs(is_form(other), False)

    def test_by_name(self):
        for test in TESTS[:11]:
            for thing in GOOD + LEAVES:
                self.assertIs(test(thing=thing), test(thing))
        for thing in GOOD + LEAVES:
            self.assertIs(is_shape(thing=thing, rank=6), is_shape(6, thing))
        for test, book in ((is_tree, NEST), (is_context, NEST)):
            for thing in GOOD + LEAVES:
                self.assertIs(test(thing=thing, sort=1, book=book), test(book, 1, thing))

    def test_deep(self):
        for make in (lambda thing: (thing,), lambda thing: [thing], lambda thing: (1, thing),
                     lambda thing: ("lam", thing), lambda thing: (thing, (), ()),
                     lambda thing: ("pieces", thing, ())):
            thing = ()
            for _ in range(28):
                thing = make(thing)
            self.ask(thing)

    def test_true_is_not_one(self):
        """True or False in the place of a number is refused, wherever it stands."""
        for thing, check in ((NEST, lets_book), (MEAN[2][1], lets_term), (SPLIT, CHECKERS[3]), (MEAN, CHECKERS[4]),
                             (FORM, CHECKERS[5]), (WALK, CHECKERS[6]), ((0, 1, 2), CHECKERS[2]), (NET, CHECKERS[7]),
                             (NET, CHECKERS[8]), (WITHIN, CHECKERS[9]), (GOOD[-1], CHECKERS[10]),
                             (MACHINE, lets_machine)) + PAPERS:
            check(thing)
            for other in self.with_bools(thing):
                self.assertRaises(InvalidPaper, check, other)
        for thing, test in (((1, 0, 0), is_type), ((0, 1), is_quotient), ((1, -1), TESTS[-1]), ((1, 1, 2), TESTS[-2]),
                            (MEAN[2][1], is_term), (FORM, is_form), (GRAPH, is_graph), (SHAPE, TESTS[-3])):
            self.assertIs(test(thing), True)
            for other in self.with_bools(thing):
                self.assertIs(test(other), False)

    def with_bools(self, thing):
        """All ways to write True for one 1, or False for one 0, in the thing."""
        if isinstance(thing, tuple):
            for at, part in enumerate(thing):
                for other in self.with_bools(part):
                    yield thing[:at] + (other,) + thing[at + 1:]
        elif thing in (0, 1):
            yield bool(thing)

    def test_lists_are_no_tuples(self):
        """A list in the place of a tuple is refused, wherever it stands."""
        for thing, check in ((NEST, lets_book), (MEAN[2][1], lets_term), (SPLIT, CHECKERS[3]), (MEAN, CHECKERS[4]),
                             (FORM, CHECKERS[5]), (WALK, CHECKERS[6]), ((0, 1, 2), CHECKERS[2]), (NET, CHECKERS[7]),
                             (NET, CHECKERS[8]), (WITHIN, CHECKERS[9]), (GOOD[-1], CHECKERS[10]),
                             (MACHINE, lets_machine)) + PAPERS:
            for other in self.with_lists(thing):
                self.assertRaises(InvalidPaper, check, other)
        for thing, test in ((TWIST, is_twist), (GRAPH, is_graph), (SHAPE, TESTS[-3]), (PATTERN, is_pattern)):
            for other in self.with_lists(thing):
                self.assertIs(test(other), False)

    def with_lists(self, thing):
        """All ways to write a list for one tuple in the thing."""
        if isinstance(thing, tuple):
            yield list(thing)
            for at, part in enumerate(thing):
                for other in self.with_lists(part):
                    yield thing[:at] + (other,) + thing[at + 1:]


if __name__ == "__main__":
    unittest.main()
