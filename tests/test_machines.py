"""Machines and patterns [73] to [76]."""

import itertools
import random
import unittest

from everytongue.machinechecker import lets_machine
from everytongue.machines import beginning_machine, both, led_to, takes, text_machine, without_pairs
from everytongue.patterns import is_pattern, pattern_machine
from asking import Asking
from samples import ODD
from waysamples import BAD_MACHINES, MACHINE, random_machine

BAD_TEXTS = (None, "a", ["a"], ("",), ("a b",), (1,), ("x" * 17,), (("a",),), 0, True)
BAD_VOCABULARIES = BAD_TEXTS + (("b", "a"), ("a", "a"), ("a", "b", "b"))
WORDS = ("a", "b", "c")
SOME = ("again", ("or", ("then", ("word", "a"), ("any",)), ("then", ("empty",), ("word", "z"))))
BAD_PATTERNS = (None, (), "any", ["any"], ("any", 1), ("empty", ()), ("word",), ("word", ""), ("word", "a", "b"),
                ("word", ("a",)), ("again",), ("again", None), ("again", ("any",), ("any",)), ("then", ("any",)),
                ("then", ("any",), ["any"]), ("or", ("any",), ("any",), ("any",)), ("or", ("any",), ("both",)), (("any",),),
                ("words", "a"), (True,), (0, 1), ("again", ("again", ("again", ("word", "")))), ("word", True), ("",))


def texts(words, most):
    """All texts of the words with at most so many words."""
    return [text for many in range(most + 1) for text in itertools.product(words, repeat=many)]


def slow_led(machine, state, words):
    """Where words lead from the state, -1 if they lead nowhere."""
    for word in words:
        onward = [further for one, letter, further in machine[2] if (one, letter) == (state, word)]
        if not onward:
            return -1
        state, = onward
    return state


def slow_takes(machine, words):
    return slow_led(machine, 0, words) in machine[1]


def slow_matches(pattern, vocabulary, words):
    """Whether the pattern matches the text, word for word as in [76]."""
    head = pattern[0]
    if head == "word":
        return words == (pattern[1],)
    if head == "any":
        return len(words) == 1 and words[0] in vocabulary
    if head == "empty":
        return words == ()
    cuts = range(len(words) + 1)
    if head == "then":
        return any([slow_matches(pattern[1], vocabulary, words[:cut]) and
                    slow_matches(pattern[2], vocabulary, words[cut:]) for cut in cuts])
    if head == "or":
        return any([slow_matches(part, vocabulary, words) for part in pattern[1:]])
    return words == () or any([slow_matches(pattern[1], vocabulary, words[:cut]) and
                               slow_matches(pattern, vocabulary, words[cut:]) for cut in cuts[1:]])


def random_pattern(rng, depth, words=("a", "b", "z")):
    if depth == 1 or rng.random() < 0.15:
        return rng.choice([("word", rng.choice(words)), ("word", rng.choice(words)), ("any",), ("empty",)])
    head = rng.choice(("then", "or", "again"))
    return (head,) + tuple([random_pattern(rng, depth - 1, words) for _ in range(1 if head == "again" else 2)])


class Machines(Asking):

    def least(self, machine):
        """No machine of fewer states takes the same: states are come to, lead on to finals, and are unlike."""
        many, finals, rows = machine
        self.assertEqual(lets_machine(machine), many)
        after = {0}
        for _ in range(many):
            after |= {further for state, _, further in rows if state in after}
        self.assertEqual(len(after), many)
        live = set(finals)
        for _ in range(many):
            live |= {state for state, _, further in rows if further in live}
        self.assertTrue(live == set(range(many)) or (many, finals, rows) == (1, (), ()))
        parts = [state in finals for state in range(many)]
        for _ in range(many):
            told = [(parts[state], tuple([(word, parts[further]) for one, word, further in rows if one == state]))
                    for state in range(many)]
            parts = [told.index(row) for row in told]
        self.assertEqual(len(set(parts)), many)


class LetsMachine(Asking):

    def test_machines(self):
        self.same(lets_machine(MACHINE), 3)
        self.same(lets_machine(thing=MACHINE), 3)
        self.same(lets_machine((1, (), ())), 1)
        self.same(lets_machine((10 ** 59, (0, 10 ** 58), ((5, "a", 10 ** 59 - 1), (5, "b", 5)))), 10 ** 59)

    def test_shape(self):
        for thing in ODD + (MACHINE[:2], MACHINE + (1,), list(MACHINE), "abc"):
            self.invalid("shape", -1, lets_machine, thing)

    def test_states(self):
        for states in (0, -1, True, None, "3", (3,), [3]):
            self.invalid("states", -1, lets_machine, (states,) + MACHINE[1:])
            self.invalid("states", -1, lets_machine, (states, None, None))

    def test_finals(self):
        for finals in (None, [0, 2], (2, 0), (0, 0), (3,), (-1,), (True,), (0, True), ("0",), "02", 0, ((0,),), (0, None)):
            self.invalid("finals", -1, lets_machine, (3, finals, MACHINE[2]))
            self.invalid("finals", -1, lets_machine, (3, finals, None))

    def test_rows(self):
        for rows in (None, [], list(MACHINE[2]), "abc", 0):
            self.invalid("rows", -1, lets_machine, (3, (0,), rows))

    def test_row(self):
        for row in (None, (), (0, "a"), (0, "a", 1, 1), [0, "a", 1], (3, "a", 1), (0, "a", 3), (-1, "a", 1), (0, "a", -1),
                    (True, "a", 1), (0, "a", True), (0, "", 1), (0, "a b", 1), (0, 1, 1), (0, ("a",), 1), ("0", "a", 1),
                    "0a1", (0, None, 1)):
            self.invalid("row", 0, lets_machine, (3, (), (row,)))
            self.invalid("row", 0, lets_machine, (3, (), (row, None)))
            self.invalid("row", 2, lets_machine, (3, (), ((0, "Z", 1), (0, "a", 1), row, (0, "a", 1))))

    def test_order(self):
        for before, row in (((0, "a", 1), (0, "a", 1)), ((0, "a", 1), (0, "a", 2)), ((0, "b", 1), (0, "a", 2)),
                            ((1, "a", 1), (0, "b", 2)), ((0, "aa", 1), (0, "a", 2)), ((0, "a", 0), (0, "B", 1))):
            self.invalid("order", 1, lets_machine, (3, (), (before, row)))
            self.invalid("order", 1, lets_machine, (3, (), (before, row, None)))
        self.invalid("row", 1, lets_machine, (3, (), ((1, "a", 1), (0, "a", 3))))


class Going(Asking):

    def test_all_texts(self):
        rng = random.Random(120)
        for _ in range(60):
            machine = random_machine(rng)
            for text in texts(("a", "b", "c"), 4):
                self.assertIs(takes(machine, text), slow_takes(machine, text))
                for state in range(machine[0]):
                    self.same(led_to(machine, state, text), slow_led(machine, state, text))

    def test_edges(self):
        self.same(led_to(MACHINE, 2, ()), 2)
        self.same(led_to(MACHINE, 1, ("b",)), -1)
        self.same(led_to(MACHINE, 1, ("a", "a", "b", "b")), -1)
        self.same(led_to(MACHINE, 0, ("b",) * 400 + ("a",)), 1)
        self.assertIs(takes((1, (), ()), ()), False)
        self.assertIs(takes((1, (0,), ()), ()), True)
        self.assertIs(takes((1, (0,), ()), ("a",)), False)
        # A final state that is no end of the text.
        self.assertIs(takes(MACHINE, ("a",)), False)

    def test_text_machine(self):
        self.same(text_machine(("b", "a", "b")), (4, (3,), ((0, "b", 1), (1, "a", 2), (2, "b", 3))))
        self.same(text_machine(()), (1, (0,), ()))
        for text in texts(("a", "b"), 4):
            machine = text_machine(words=text)
            self.assertEqual(lets_machine(machine), len(text) + 1)
            for other in texts(("a", "b"), 5):
                self.assertIs(takes(machine, other), other == text)
        self.same(lets_machine(text_machine(("w",) * 400)), 401)

    def test_beginning_machine(self):
        self.same(beginning_machine(("b",), ("a", "b")), (2, (1,), ((0, "b", 1), (1, "a", 1), (1, "b", 1))))
        self.same(beginning_machine((), ()), (1, (0,), ()))
        self.same(beginning_machine((), ("a",)), (1, (0,), ((0, "a", 0),)))
        self.same(beginning_machine(("x", "y"), ()), text_machine(("x", "y")))
        for text in texts(("a", "c"), 3):
            machine = beginning_machine(text, ("a", "b"))
            self.assertEqual(lets_machine(machine), len(text) + 1)
            for other in texts(WORDS, 5):
                due = other[:len(text)] == text and "c" not in other[len(text):]
                self.assertIs(takes(machine, other), due)

    def test_parameters(self):
        self.asks(led_to, {"machine": MACHINE, "state": 1, "words": ("a",)},
                  {"machine": BAD_MACHINES, "state": (3, -1, True, None, "0", (0,)), "words": BAD_TEXTS})
        self.asks(takes, {"machine": MACHINE, "words": ("a",)}, {"machine": BAD_MACHINES, "words": BAD_TEXTS})
        self.asks(text_machine, {"words": ("a", "b")}, {"words": BAD_TEXTS})
        self.asks(beginning_machine, {"words": ("b", "a"), "vocabulary": ("a", "c")},
                  {"words": BAD_TEXTS, "vocabulary": BAD_VOCABULARIES})


class Both(Machines):

    def test_all_texts(self):
        rng = random.Random(121)
        for _ in range(150):
            one, other = random_machine(rng), random_machine(rng, words=("a", "b", "c"))
            machine = both(one, other)
            self.least(machine)
            for text in texts(WORDS, 4):
                self.assertIs(takes(machine, text), takes(one, text) and takes(other, text))

    def test_edges(self):
        none = (1, (), ())
        self.same(both(none, MACHINE), none)
        self.same(both(MACHINE, none), none)
        self.same(both(text_machine(("a",)), text_machine(("b",))), none)
        self.same(both((1, (0,), ()), (1, (0,), ((0, "a", 0),))), (1, (0,), ()))
        text = ("a", "b", "a")
        self.least(both(text_machine(text), beginning_machine(("a",), ("a", "b"))))
        self.assertIs(takes(both(text_machine(text), beginning_machine(("a",), ("a", "b"))), text), True)
        self.same(lets_machine(both(MACHINE, MACHINE)), 3)

    def test_large(self):
        # Texts whose length is a multiple of 59 and of 60.
        one = (59, (0,), tuple([(k, "a", (k + 1) % 59) for k in range(59)]))
        other = (60, (0,), tuple([(k, "a", (k + 1) % 60) for k in range(60)]))
        machine = both(one, other)
        self.same((lets_machine(machine), len(machine[2])), (3540, 3540))
        self.assertIs(takes(machine, ("a",) * 3540), True)
        self.assertIs(takes(machine, ("a",) * 3539), False)
        wide = text_machine(("w",) * 400)
        self.same(lets_machine(both(wide, (1, (0,), ((0, "w", 0),)))), 401)
        # Many states that are alike in the end.
        self.same(lets_machine(both(one[:1] + (tuple(range(59)),) + one[2:], one[:1] + (tuple(range(59)),) + one[2:])), 1)

    def test_parameters(self):
        self.asks(both, {"machine": MACHINE, "other": (1, (0,), ())}, {"machine": BAD_MACHINES, "other": BAD_MACHINES})


class WithoutPairs(Machines):

    def test_all_texts(self):
        rng = random.Random(122)
        for _ in range(60):
            words = tuple(sorted(rng.sample(("a", "b", "c", "d"), rng.randint(0, 3))))
            pairs = list(itertools.product(("a", "b", "c", "e"), repeat=2))
            pairs = tuple(sorted(rng.sample(pairs, rng.randint(0, 9))))
            machine = without_pairs(words, pairs)
            self.least(machine)
            for text in texts(("a", "b", "c", "e"), 4):
                due = all([word in words for word in text]) and not any([pair in pairs for pair in zip(text, text[1:])])
                self.assertIs(takes(machine, text), due)

    def test_edges(self):
        self.same(without_pairs((), ()), (1, (0,), ()))
        self.same(without_pairs(("a", "b"), ()), (1, (0,), ((0, "a", 0), (0, "b", 0))))
        self.same(without_pairs((), (("a", "b"),)), (1, (0,), ()))
        once = without_pairs(("a",), (("a", "a"),))
        self.same(once, (2, (0, 1), ((0, "a", 1),)))
        many = tuple(sorted([str(k) for k in range(100)]))
        machine = without_pairs(many, tuple(sorted([(word, word) for word in many])))
        self.same((lets_machine(machine), len(machine[2])), (101, 10000 - 100 + 100))

    def test_parameters(self):
        pairs = (None, [("a", "b")], (["a", "b"],), (("a",),), (("a", "b", "c"),), (("a", ""),), (("a", 1),), ("ab",), 0,
                 (("b", "a"), ("a", "b")), (("a", "b"), ("a", "b")), (("a", "b"), None), ((),), (("a", ("b",)),))
        self.asks(without_pairs, {"vocabulary": ("a", "b"), "pairs": (("a", "b"), ("b", "b"))},
                  {"vocabulary": BAD_VOCABULARIES, "pairs": pairs})


class Patterns(Machines):

    def test_is_pattern(self):
        for pattern in (("word", "any"), ("any",), ("empty",), ("then", ("any",), ("empty",)), SOME,
                        ("or", ("again", ("empty",)), ("word", "w"))):
            self.assertIs(is_pattern(pattern), True)
            self.assertIs(is_pattern(thing=pattern), True)
        for thing in BAD_PATTERNS + ODD:
            self.assertIs(is_pattern(thing), False)
            self.assertIs(is_pattern(("again", thing)), False)
            self.assertIs(is_pattern(("then", SOME, thing)), False)
            self.assertIs(is_pattern(("or", thing, SOME)), False)

    def test_deep(self):
        pattern = ("any",)
        for _ in range(5000):
            pattern = ("again", pattern)
        self.assertIs(is_pattern(pattern), True)
        for head in ("then", "or"):
            pattern = ("empty",)
            for _ in range(28):
                pattern = (head, pattern, ("any",))
            self.assertIs(is_pattern(pattern), True)
            self.assertIs(is_pattern((head, pattern, ("any", 1))), False)

    def test_all_texts(self):
        rng = random.Random(123)
        taken = 0
        for _ in range(250):
            pattern = random_pattern(rng, rng.randint(1, 4))
            words = tuple(sorted(rng.sample(("a", "b", "c"), rng.randint(0, 3))))
            machine = pattern_machine(pattern, words)
            self.least(machine)
            for text in texts(("a", "b", "c", "z"), 3):
                due = slow_matches(pattern, words, text)
                taken += due
                self.assertIs(takes(machine, text), due, (pattern, words, text))
        self.assertTrue(taken > 1000)

    def test_each_kind(self):
        words = ("a", "b")
        for pattern, due in (
                (("word", "a"), [("a",)]), (("word", "z"), [("z",)]), (("any",), [("a",), ("b",)]), (("empty",), [()]),
                (("then", ("any",), ("word", "z")), [("a", "z"), ("b", "z")]),
                (("or", ("empty",), ("then", ("word", "b"), ("any",))), [(), ("b", "a"), ("b", "b")]),
                (("then", ("or", ("empty",), ("word", "a")), ("or", ("empty",), ("word", "b"))),
                 [(), ("a",), ("b",), ("a", "b")])):
            machine = pattern_machine(pattern, words)
            self.assertEqual([text for text in texts(("a", "b", "z"), 3) if takes(machine, text)], due)
        # "again" of what matches (), and of "again".
        for pattern in (("again", ("empty",)), ("again", ("again", ("empty",)))):
            self.same(pattern_machine(pattern, words), (1, (0,), ()))
        for inner in (("any",), ("or", ("empty",), ("any",)), ("again", ("any",)), ("then", ("again", ("word", "a")),
                                                                                   ("again", ("word", "b")))):
            self.same(pattern_machine(("again", inner), words), (1, (0,), ((0, "a", 0), (0, "b", 0))))
        # Nothing is matched: no word is in the vocabulary.
        self.same(pattern_machine(("any",), ()), (1, (), ()))
        self.same(pattern_machine(("again", ("any",)), ()), (1, (0,), ()))
        self.same(pattern_machine(("then", ("word", "a"), ("any",)), ()), (1, (), ()))

    def test_large(self):
        # Six deep, with twelve that match a word: the fifth word from the end is "a".
        def then(*parts):
            while len(parts) > 1:
                parts = [("then",) + tuple(pair) if len(pair) > 1 else pair[0]
                         for pair in [parts[k:k + 2] for k in range(0, len(parts), 2)]]
            return parts[0]
        pattern = then(("again", ("any",)), ("word", "a"), *([("any",)] * 9))
        machine = pattern_machine(pattern, ("a", "b"))
        self.same(lets_machine(machine), 1024)
        rng = random.Random(124)
        for _ in range(300):
            text = tuple([rng.choice("ab") for _ in range(rng.randint(0, 25))])
            self.assertIs(takes(machine, text), len(text) > 9 and text[-10] == "a")
        many = tuple(sorted(["w" + str(k) for k in range(100)]))
        machine = pattern_machine(then(("again", ("any",)), ("word", "w7"), ("any",)), many)
        self.least(machine)
        self.same((lets_machine(machine), len(machine[2])), (4, 400))
        self.assertIs(takes(machine, ("w1", "w7", "w7", "w99")), True)
        self.assertIs(takes(machine, ("w7", "w1", "w99")), False)

    def test_parameters(self):
        self.asks(pattern_machine, {"pattern": SOME, "vocabulary": ("a", "b")},
                  {"pattern": BAD_PATTERNS, "vocabulary": BAD_VOCABULARIES})


if __name__ == "__main__":
    unittest.main()
