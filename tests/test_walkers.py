"""The checker of walkers [43]."""

import unittest

from everytongue.walkerchecker import lets_walker
from asking import Asking
from samples import BAD_BOOKS, EMPTY, FOUR, NEST, NO_CONS, ODD, WALK

RULE = (0, 1, 0, ("a",), 1, 0)


def walker(*rules, states=2):
    return ("walker", states, rules)


class LetsWalker(Asking):

    def test_walkers(self):
        self.assertEqual(lets_walker(NEST, WALK), 5)
        self.assertEqual(lets_walker(thing=WALK, book=NEST), 5)
        self.same(lets_walker(NEST, ("walker", 1, ())), 0)
        self.same(lets_walker(EMPTY, ("walker", 10 ** 59, ())), 0)
        self.same(lets_walker(NO_CONS, ("walker", 3, ())), 0)
        self.assertEqual(lets_walker(NEST, walker(RULE, (1, 0, 1, ("w",) * 500, 1, 1))), 2)
        self.assertEqual(lets_walker(NEST, walker((10 ** 59 - 1, 0, 0, (), 0, 5), states=10 ** 59)), 1)
        rules = [(s, c, k, (), k, 1 - s) for s in range(2) for c in range(4) for k in range(1 + len(FOUR[2][c][1]))]
        self.assertEqual(lets_walker(FOUR, walker(*rules)), len(rules))

    def test_shape(self):
        for thing in ODD + (WALK[:2], WALK + (1,), list(WALK), ("walkers",) + WALK[1:], ("webs", (), ()),
                            (["walker"], 1, ())):
            self.invalid("shape", -1, lets_walker, NEST, thing)

    def test_states(self):
        for states in (0, -1, True, None, "1", (1,), [1]):
            self.invalid("states", -1, lets_walker, NEST, ("walker", states, WALK[2]))
            self.invalid("states", -1, lets_walker, NEST, ("walker", states, None))

    def test_rules(self):
        for rules in (None, [], list(WALK[2]), "", 0):
            self.invalid("rules", -1, lets_walker, NEST, ("walker", 1, rules))

    def each(self, word, wrong):
        """The rule is refused with this word, wherever it stands."""
        self.invalid(word, 0, lets_walker, NEST, walker(wrong))
        self.invalid(word, 0, lets_walker, NEST, walker(wrong, None))
        first = (0, 0, 0, (), 0, 0)
        self.invalid(word, 2, lets_walker, NEST, walker(first, (0, 0, 1, (), 0, 0), wrong, RULE[:5]))

    def changed(self, at, value):
        return RULE[:at] + (value,) + RULE[at + 1:]

    def test_rule(self):
        for rule in (None, (), RULE[:5], RULE + (0,), list(RULE), "abcdef", 6, True):
            self.each("rule", rule)

    def test_state(self):
        for state in (2, -1, True, None, "0", (0,), 10 ** 59):
            self.each("state", self.changed(0, state))
            self.each("state", self.changed(5, state))
            # Ahead of all else in the rule.
            self.each("state", (0, 9, 9, None, 9, state))

    def test_con(self):
        for con in (3, -1, True, None, "0", (0,), 10 ** 59):
            self.each("con", self.changed(1, con))
            self.each("con", (0, con, 9, None, 9, 0))

    def test_came(self):
        for came in (2, -1, True, None, "0", (0,), 10 ** 59):
            self.each("came", self.changed(2, came))
            self.each("came", self.changed(4, came))
            self.each("came", (0, 1, 0, None, came, 0))
        self.invalid("came", 0, lets_walker, NEST, walker((0, 2, 1, (), 0, 0)))
        self.invalid("came", 0, lets_walker, NEST, walker((0, 2, 0, (), 1, 0)))
        self.invalid("came", 0, lets_walker, FOUR, walker((0, 0, 5, (), 0, 0)))
        self.assertEqual(lets_walker(FOUR, walker((0, 0, 4, (), 4, 0))), 1)

    def test_words(self):
        for words in (None, [], ["a"], ("",), ("a b",), "a", (1,), ("x" * 17,), (("a",),), True, 0):
            self.each("words", self.changed(3, words))

    def test_order(self):
        for before, rule in (((0, 1, 0), (0, 1, 0)), ((0, 1, 1), (0, 1, 0)), ((0, 1, 0), (0, 0, 1)),
                             ((1, 0, 0), (0, 1, 1))):
            rules = (before + ((), 0, 0), rule + (("z",), 1, 1))
            self.invalid("order", 1, lets_walker, NEST, walker(*rules))
            self.invalid("order", 1, lets_walker, NEST, walker(*rules, None))
        # Behind all other words of the rule, and told of the later one alone.
        self.invalid("words", 1, lets_walker, NEST, walker(RULE, self.changed(3, None)))
        self.invalid("order", 2, lets_walker, NEST, walker((0, 0, 0, (), 0, 0), (1, 0, 0, (), 0, 0), RULE))

    def test_book_first(self):
        for book in BAD_BOOKS:
            self.not_usable("book", lets_walker, book, WALK)
            self.not_usable("book", lets_walker, book, None)


if __name__ == "__main__":
    unittest.main()
