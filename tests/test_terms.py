"""Types, terms, their checkers, steps and worths [33] to [37], [42], G3."""

import random
import unittest

from everytongue.errors import NotUsable
from everytongue.ftypes import doors_of, is_type, type_from, type_order, type_parts
from everytongue.steps import done_term, step_at, step_places
from everytongue.termchecker import lets_functions, lets_term
from everytongue.terms import applied, is_term, tree_term
from everytongue.worths import function_text, term_text
from asking import Asking
from samples import (BAD_BOOKS, BAD_FUNCTIONS, BAD_TERMS, BAD_TREES, EMPTY, MEAN, NEST, NO_CONS, NoTerm, ODD, PAIRS,
                     TYPES, function_samples, random_term, slow_kids, split_type, start_trees, trees_by_size, worth,
                     worth_end)

ATOM = (0,)
LINE = (1, 0, 0)
APP = ("app",)
WORD = (("word", "w"),)
SAME = (("lam", LINE), ("var", 0))


def all_types(atoms):
    """All types of so many atoms."""
    if atoms == 1:
        return [ATOM]
    return [(1,) + one + other for k in range(1, atoms) for one in all_types(k) for other in all_types(atoms - k)]


class Types(Asking):

    def test_examples(self):
        self.same((doors_of((1, 1, 0, 0, 1, 0, 0)), type_parts((1, 1, 0, 0, 1, 0, 0))),
                  ((True, False, False, True), ((1, 0, 0), (0,))))

    def test_is_type(self):
        types = {ftype for atoms in range(1, 6) for ftype in all_types(atoms)}
        for length in range(10):
            for bits in range(1 << length):
                thing = tuple([bits >> k & 1 for k in range(length)])
                self.assertIs(is_type(thing), thing in types, thing)
        for thing in ODD + ((False,), (True, 0, 0), (1, False, 0), (1, 0, 2), (-1,), [1, 0, 0], (1, 0, "0"), "100",
                            (1, (0,), 0), (2, 0, 0, 0), (2, 0, 0, 0, 0), (1, 0, None), (10 ** 59,), (1, 0, 0, 0),
                            (0, 0)):
            self.assertIs(is_type(thing), False, thing)
        self.assertIs(is_type((1,) * 2000 + (0,) * 2001), True)
        self.assertIs(is_type((1, 0) * 2000 + (0,)), True)

    def test_order(self):
        def slow(ftype):
            if ftype == ATOM:
                return 0
            one, other = split_type(ftype)
            return max(slow(one) + 1, slow(other))
        for atoms in range(1, 8):
            for ftype in all_types(atoms):
                self.same(type_order(ftype), slow(ftype))
        self.assertEqual(type_order((1,) * 2000 + (0,) * 2001), 2000)
        self.assertEqual(type_order((1, 0) * 2000 + (0,)), 1)

    def test_parts(self):
        for atoms in range(1, 8):
            for ftype in all_types(atoms):
                parts, rest = [], ftype
                while rest != ATOM:
                    part, rest = split_type(rest)
                    parts.append(part)
                self.same(type_parts(ftype), tuple(parts))
                self.same(type_from(tuple(parts)), ftype)
        self.same(type_parts(ATOM), ())
        self.same(type_from(()), ATOM)
        self.same(type_parts((1, 0) * 2000 + (0,)), ((0,),) * 2000)
        self.assertEqual(type_from(((1,) * 900 + (0,) * 901,)), (1,) * 901 + (0,) * 902)

    def test_doors(self):
        def slow(ftype):
            if ftype == ATOM:
                return (True,)
            one, other = split_type(ftype)
            return tuple([not door for door in slow(one)]) + slow(other)
        for atoms in range(1, 8):
            for ftype in all_types(atoms):
                self.same(doors_of(ftype), slow(ftype))
                self.assertIs(doors_of(ftype)[-1], True)
        self.assertEqual(len(doors_of((1,) * 2000 + (0,) * 2001)), 2001)

    def test_parameters(self):
        bad = (None, (), (1, 0), (0, 0), (True, 0, 0), [0], (2, 0, 0), "0", 0)
        for function in (type_order, type_parts, doors_of):
            self.asks(function, {"ftype": LINE}, {"ftype": bad})
        self.asks(type_from, {"parts": (LINE, ATOM)},
                  {"parts": (None, LINE, [LINE], (LINE, ()), ([0],), (LINE, (True, 0, 0)), "0", 0, (None,))})


class Terms(Asking):

    def test_is_term(self):
        for thing in (WORD, SAME, (("var", 10 ** 59),), (APP,) + WORD + WORD,
                      (("lam", ATOM), ("lam", LINE), ("var", 7)), (APP, APP, ("var", 0), ("var", 0), ("word", "x")),
                      (APP,) * 2000 + (("var", 1),) * 2001, (("lam", LINE),) * 4000 + WORD):
            self.assertIs(is_term(thing), True)
        for thing in ODD + BAD_TERMS[:4] + ((APP,) + WORD, SAME + WORD, (("lam", LINE),), (("lam",), WORD[0]), (WORD,),
                                            (("var",),), (("var", -1),), (("var", True),), (("var", "0"),),
                                            (("word",),),
                                            (("word", "a b"),), (("app", 0),), (("lam", (1, 0)), WORD[0]), (("app",),),
                                            (["word", "w"],), (("x", "w"),), ("word", "w"), (("lam", [0]), WORD[0]),
                                            (("word", "w", "w"),), (((),),), ((),), ("app",), ((None, 0),)):
            self.assertIs(is_term(thing), False, thing)

    def test_applied(self):
        pair = (("lam", LINE), ("lam", LINE), ("lam", ATOM), APP, ("var", 2), APP, ("var", 1), ("var", 0))
        self.same(applied(pair), pair)
        self.same(applied(pair, WORD), (APP,) + pair + WORD)
        self.same(applied(pair, WORD, (APP,) + SAME + WORD), (APP, APP) + pair + WORD + (APP,) + SAME + WORD)
        self.assertEqual(lets_term(applied(pair, WORD, WORD)), LINE)
        self.same(applied(term=WORD), WORD)

    def test_applied_arguments(self):
        pair = (("lam", LINE), ("lam", LINE), ("lam", ATOM), APP, ("var", 2), APP, ("var", 1), ("var", 0))
        for bad in BAD_TERMS + (SAME, pair, (("lam", ATOM), ("var", 0), ("var", 0))):
            self.refused(NotUsable, ("arguments", 0), applied, pair, bad)
            self.refused(NotUsable, ("arguments", 1), applied, pair, WORD, bad)
            self.refused(NotUsable, ("arguments", 1), applied, pair, WORD, bad, bad)
            self.refused(NotUsable, ("arguments", 2), applied, pair, WORD, WORD, bad)
            self.refused(NotUsable, ("arguments", 0), applied, WORD, bad)
        self.refused(NotUsable, ("arguments", 0), applied, SAME, SAME)
        self.refused(NotUsable, ("arguments", 1), applied, SAME, WORD, WORD)
        self.refused(NotUsable, ("arguments", 0), applied, WORD, WORD)
        for bad in BAD_TERMS:
            self.not_usable("term", applied, bad)
            self.not_usable("term", applied, bad, None)

    def test_tree_term(self):
        self.same(tree_term(NEST, MEAN, (0, 2)),
                  (APP, ("lam", LINE), ("var", 0), ("lam", ATOM), ("var", 0)))
        for book, functions in function_samples(34, 60):
            for sort, rows in enumerate(trees_by_size(book, 5)):
                for tree in [tree for row in rows for tree in row][:30]:
                    kids = [tree_term(book, functions, kid) for kid in slow_kids(book, tree)]
                    term = tree_term(book, functions, tree)
                    self.same(term, applied(functions[2][tree[0]], *kids))
                    self.assertEqual(lets_term(term), functions[1][sort])

    def test_parameters(self):
        good = {"book": NEST, "functions": MEAN, "tree": (0, 1, 2)}
        self.asks(tree_term, good, {"book": BAD_BOOKS, "functions": BAD_FUNCTIONS, "tree": BAD_TREES})
        good = {"book": NEST, "functions": MEAN, "start_tree": (0, 1, 2)}
        bad = {"book": BAD_BOOKS, "functions": BAD_FUNCTIONS, "start_tree": BAD_TREES + ((2,), (1, 2))}
        self.asks(function_text, good, bad)
        self.asks(step_places, {"term": SAME}, {"term": BAD_TERMS})
        self.asks(done_term, {"term": SAME}, {"term": BAD_TERMS})
        self.asks(term_text, {"term": WORD}, {"term": BAD_TERMS + (SAME, (("lam", (1, 1, 0, 0, 0)), APP, ("var", 0)))})
        step = (APP,) + SAME + WORD
        self.asks(step_at, {"term": step, "at": 0},
                  {"term": BAD_TERMS, "at": (1, -1, 4, False, None, "0", (0,), 10 ** 59)})
        self.not_usable("at", step_at, (("lam", ATOM), APP, ("word", "a"), ("var", 0)), 1)
        # True is not 1, although a step can be taken at the place 1.
        inner = (("lam", ATOM), APP, ("lam", ATOM), ("var", 0), ("var", 0))
        self.same(step_at(inner, 1), (("lam", ATOM), ("var", 0)))
        self.not_usable("at", step_at, inner, True)


class LetsTerm(Asking):

    def test_terms(self):
        self.same(lets_term(WORD), LINE)
        self.same(lets_term(thing=SAME), (1, 1, 0, 0, 1, 0, 0))
        self.same(lets_term((APP,) + SAME + WORD), LINE)
        self.same(lets_term((("lam", ATOM), ("var", 0))), LINE)
        # An ("app",) whose function is a variable, used on a word.
        self.same(lets_term((("lam", (1, 1, 0, 0, 0)), APP, ("var", 0), ("word", "a"))), (1, 1, 1, 0, 0, 0, 0))
        rng = random.Random(35)
        for _ in range(200):
            ftype = rng.choice(TYPES)
            self.same(lets_term(random_term(rng, ftype)), ftype)

    def test_shape(self):
        for thing in (None, True, 0, "", "ab", [], [("word", "w")], -1):
            self.invalid("shape", -1, lets_term, thing)

    def test_end(self):
        for thing in ((), (APP,), (("lam", LINE),), (APP,) + WORD, (APP, APP) + WORD + WORD, (APP, ("var", 9))):
            self.invalid("end", len(thing), lets_term, thing)
        self.invalid("end", 5000, lets_term, (APP,) * 5000)

    def test_token(self):
        for token in (None, (), "app", ("app", 0), ("word", ""), ("word", "a b"), ("word",), ("var", -1), ("var", True),
                      ("lam", (1, 0)), ("lam", (False,)), ("lam",), ("other", 0), ("other", LINE), ("lam", 0),
                      ["app"], 0, True, (None,), ("var", "0"),
                      (("app",),), ("word", "w", 0)):
            self.invalid("token", 0, lets_term, (token,))
            self.invalid("token", 0, lets_term, (token, ("var", 9)))
            self.invalid("token", 2, lets_term, (APP, ("var", 9), token, token))

    def test_more(self):
        self.invalid("more", 1, lets_term, WORD + WORD)
        self.invalid("more", 1, lets_term, WORD + (None,))
        self.invalid("more", 2, lets_term, SAME + (("var", 9),))
        self.invalid("more", 3, lets_term, (APP, ("var", 9), ("var", 9), None, "x"))

    def test_free(self):
        self.invalid("free", 0, lets_term, (("var", 0),))
        self.invalid("free", 1, lets_term, (("lam", LINE), ("var", 1)))
        self.invalid("free", 1, lets_term, (("lam", LINE), ("var", 10 ** 59)))
        # The lambda's body ends ahead of the argument.
        self.invalid("free", 3, lets_term, (APP, ("lam", LINE), ("var", 0), ("var", 0)))
        self.invalid("free", 2, lets_term, (APP,) + (APP, ("var", 0)) + WORD + WORD)
        self.invalid("free", 4, lets_term, (("lam", LINE), APP, ("lam", LINE), ("var", 1), ("var", 1)))
        # Free ahead of misfits, and of variables that stand twice.
        self.invalid("free", 5, lets_term, (APP, APP, ("word", "a"), ("word", "a"), APP, ("var", 0), ("word", "a")))

    def test_fit(self):
        self.invalid("fit", 0, lets_term, (APP,) + WORD + WORD)
        self.invalid("fit", 0, lets_term, (APP,) + SAME + SAME)
        # The function is an atom.
        self.invalid("fit", 1, lets_term, (("lam", ATOM), APP, ("var", 0), ("word", "a")))
        # The greatest place, also if an outer one does not fit either.
        self.invalid("fit", 4, lets_term, (APP,) + SAME + (APP, APP) + WORD + WORD + WORD)
        self.invalid("fit", 2, lets_term, (APP, APP, APP) + WORD + WORD + SAME + SAME)
        self.invalid("fit", 5, lets_term, (APP, APP) + WORD + WORD + (("lam", LINE), APP) + WORD + (("var", 0),))
        # A misfit behind a variable that stands nowhere.
        self.invalid("fit", 1, lets_term, (("lam", LINE), APP) + WORD + WORD)
        self.invalid("fit", 0, lets_term, (APP, ("lam", (1, 1, 0, 0, 0)), ("var", 0), ("word", "a")))

    def test_once(self):
        self.invalid("once", 0, lets_term, (("lam", LINE),) + WORD)
        self.invalid("once", 1, lets_term, (("lam", LINE), ("lam", LINE), ("var", 1)))
        self.invalid("once", 0, lets_term, (("lam", LINE), ("lam", LINE), ("var", 0)))
        twice = (("lam", LINE), ("lam", ATOM), APP, ("var", 1), APP, ("var", 1), ("var", 0))
        self.invalid("once", 0, lets_term, twice)
        self.invalid("once", 1, lets_term, (("lam", LINE), ("lam", LINE), ("lam", ATOM), APP, ("var", 2), ("var", 0)))
        self.invalid("once", 3, lets_term, (APP, ("lam", (1, 1, 0, 0, 1, 0, 0)), ("var", 0)) + twice)

    def test_large(self):
        # Four thousand lambdas, each used once, further and further out.
        many = 1200
        term = (("lam", ATOM),) + (APP, ("word", "a")) * many + (("var", 0),)
        self.assertEqual(lets_term(term), LINE)
        term = (APP, ("lam", LINE), ("var", 0)) * many + WORD
        self.assertEqual(lets_term(term), LINE)
        nested = (APP,) * many + (("lam", LINE), ("var", 0)) + WORD + WORD * (many - 1)
        self.invalid("fit", many - 2, lets_term, nested)
        lams = tuple([("lam", LINE)] * many) + (("lam", ATOM),)
        body = tuple([token for k in range(many) for token in (APP, ("var", many - k))]) + (("var", 0),)
        self.assertEqual(lets_term(lams + body), (1, 1, 0, 0) * many + LINE)


class LetsFunctions(Asking):

    def test_tongues(self):
        self.assertEqual(lets_functions(NEST, MEAN), 1)
        self.assertEqual(lets_functions(thing=MEAN, book=NEST), 1)
        self.same(lets_functions(EMPTY, ("functions", (), ())), 0)
        self.assertEqual(lets_functions(NO_CONS, ("functions", (LINE, (1, 1, 1, 0, 0, 0, 0)), ())), 3)
        self.assertEqual(lets_functions((1, (), ()), ("functions", (ATOM,), ())), 0)
        for book, functions in function_samples(36, 50):
            orders = [type_order(ftype) for ftype in functions[1]]
            self.assertEqual(lets_functions(book, functions), max(orders, default=0))

    def test_shape(self):
        for thing in ODD + (MEAN[:2], MEAN + (1,), list(MEAN), ("function",) + MEAN[1:], ("walker", 1, ())):
            self.invalid("shape", -1, lets_functions, NEST, thing)

    def test_types(self):
        for types in (None, [], (LINE,), (LINE, LINE, LINE), (ATOM, LINE), (LINE, (1, 0)), (LINE, (True, 0, 0)),
                      [LINE, LINE], (LINE, None), ((1, 1, 0, 0, 0), LINE), (LINE, [1, 0, 0]), 2, "ab"):
            self.invalid("types", -1, lets_functions, NEST, ("functions", types, MEAN[2]))
            self.invalid("types", -1, lets_functions, NEST, ("functions", types, None))

    def test_terms(self):
        for terms in (None, [], (), MEAN[2][:2], MEAN[2] + (WORD,), list(MEAN[2]), "abc", 3):
            self.invalid("terms", -1, lets_functions, NEST, ("functions", MEAN[1], terms))

    def test_term_and_type(self):
        for term in BAD_TERMS:
            for at in range(3):
                terms = MEAN[2][:at] + (term,) + (None, None, None)[:2 - at]
                self.invalid("term", at, lets_functions, NEST, ("functions", MEAN[1], terms))
        for term in (WORD, (("lam", LINE), ("lam", LINE), ("lam", ATOM), APP, ("var", 1), APP, ("var", 2), ("var", 0))):
            terms = (term, (("var", 0),), MEAN[2][2])
            self.invalid("type", 0, lets_functions, NEST, ("functions", MEAN[1], terms))
        self.invalid("type", 2, lets_functions, NEST, ("functions", MEAN[1], MEAN[2][:2] + (SAME,)))
        # The kids in sequence: the first kid's type is the first one from which the term leads.
        book = (3, (0,), ((0, (1, 2)),))
        types = (LINE, (1, 1, 0, 0, 1, 0, 0), (1, 1, 0, 0, 1, 1, 0, 0, 1, 0, 0))
        body = (APP, APP, ("var", 0), APP, ("var", 1), ("word", "a"), ("word", "b"))
        functions = ("functions", types, ((("lam", types[1]), ("lam", types[2])) + body,))
        self.assertEqual(lets_functions(book, functions), 2)
        body = (APP, APP, ("var", 1), APP, ("var", 0), ("word", "a"), ("word", "b"))
        self.invalid("type", 0, lets_functions, book,
                     ("functions", types, ((("lam", types[2]), ("lam", types[1])) + body,)))

    def test_atom(self):
        # No closed linear term has the atom as its type.
        self.invalid("term", 0, lets_functions, (1, (), ((0, ()),)), ("functions", (ATOM,), ((("var", 0),),)))
        book = (2, (0,), ((0, (1,)), (1, (1,))))
        terms = ((("lam", ATOM), ("lam", ATOM), APP, ("word", "a"), ("var", 0)),)
        self.invalid("term", 0, lets_functions, book, ("functions", (LINE, ATOM), terms + terms))

    def test_book_first(self):
        for book in BAD_BOOKS:
            self.not_usable("book", lets_functions, book, MEAN)
            self.not_usable("book", lets_functions, book, None)


class Steps(Asking):

    def samples(self, seed, many):
        rng = random.Random(seed)
        while many:
            term = random_term(rng, rng.choice(TYPES))
            try:
                around = random_term(rng, (1,) + lets_term(term) + rng.choice(TYPES), 40)
            except NoTerm:
                continue
            many -= 1
            yield applied(around, term)

    def test_example(self):
        self.same(done_term(tree_term(NEST, MEAN, (0, 1, 2))),
                  ((("lam", (0,)), APP, ("word", "a"), APP, ("word", "b"), ("var", 0)), 3))

    def test_places(self):
        for term in self.samples(36, 300):
            due = []
            for at, token in enumerate(term):
                if token == APP and term[at + 1][0] == "lam":
                    due.append(at)
            self.same(step_places(term), tuple(due))
        self.same(step_places(WORD), ())

    def slow_step(self, term, at):
        """The step, with names in the place of numbers."""
        named, _ = self.name(term, 0, (), [0])
        return self.number(self.take(named, at, [0]), ())

    def name(self, term, at, around, fresh):
        token = term[at]
        if token[0] == "word":
            return token, at + 1
        if token[0] == "var":
            return ("var", around[-1 - token[1]]), at + 1
        if token[0] == "lam":
            fresh[0] += 1
            own = fresh[0]
            body, end = self.name(term, at + 1, around + (own,), fresh)
            return ("lam", token[1], own, body), end
        one, middle = self.name(term, at + 1, around, fresh)
        other, end = self.name(term, middle, around, fresh)
        return ("app", one, other), end

    def take(self, named, at, seen):
        """Named, with the step taken at the token number at."""
        here = seen[0]
        seen[0] += 1
        if named[0] == "lam":
            return named[:3] + (self.take(named[3], at, seen),)
        if named[0] == "app":
            if here == at:
                seen[0] = -10 ** 9
                return self.put(named[1][3], named[1][2], named[2])
            one = self.take(named[1], at, seen)
            return ("app", one, self.take(named[2], at, seen))
        return named

    def put(self, named, own, value):
        if named == ("var", own):
            return value
        if named[0] == "lam":
            return named[:3] + (self.put(named[3], own, value),)
        if named[0] == "app":
            return ("app", self.put(named[1], own, value), self.put(named[2], own, value))
        return named

    def number(self, named, around):
        if named[0] == "var":
            return (("var", around[::-1].index(named[1])),)
        if named[0] == "lam":
            return (named[:2],) + self.number(named[3], around + (named[2],))
        if named[0] == "app":
            return (APP,) + self.number(named[1], around) + self.number(named[2], around)
        return (named,)

    def test_step_at(self):
        for term in self.samples(37, 400):
            for at in step_places(term):
                after = step_at(term, at)
                self.same(after, self.slow_step(term, at))
                self.assertEqual(len(after), len(term) - 3)
                self.assertEqual(lets_term(after), lets_term(term))

    def test_any_sequence(self):
        rng = random.Random(38)
        for term in self.samples(39, 300):
            done = done_term(term)
            for pick in (min, max, rng.choice):
                now, many = term, 0
                while step_places(now):
                    now = step_at(now, pick(step_places(now)))
                    many += 1
                self.same((now, many), done)
            self.same(done_term(done[0]), (done[0], 0))

    def test_free_variables_are_numbered_anew(self):
        # Under two lambdas, an argument with a free variable goes into the place of one under a lambda.
        term = (("lam", LINE), ("lam", LINE), APP, ("lam", LINE), ("lam", ATOM), APP, ("var", 1), APP, ("var", 3),
                ("var", 0), ("var", 0))
        self.assertEqual(lets_term(term), (1, 1, 0, 0, 1, 1, 0, 0, 1, 0, 0))
        due = (("lam", LINE), ("lam", LINE), ("lam", ATOM), APP, ("var", 1), APP, ("var", 2), ("var", 0))
        self.same(step_at(term, 2), due)
        self.same(done_term(term), (due, 1))

    def test_large(self):
        tree = (0,) + (1,) * 998 + (2,)
        term = tree_term(NEST, MEAN, tree)
        done, many = done_term(term)
        words = (APP, ("word", "a")) * 998 + (APP, ("word", "b")) * 998
        self.same(done, (("lam", ATOM),) + words + (("var", 0),))
        self.assertEqual(3 * many, len(term) - len(done))
        self.assertEqual(len(step_at(term, step_places(term)[-1])), len(term) - 3)
        self.assertEqual(lets_term(step_at(term, 0)), LINE)
        self.assertEqual(function_text(NEST, MEAN, tree), ("a",) * 998 + ("b",) * 998)


class Worths(Asking):

    def test_words(self):
        self.same(term_text(WORD), ("w",))
        self.same(term_text((("lam", ATOM), ("var", 0))), ())
        self.same(term_text((("lam", ATOM), APP, ("word", "a"), APP, ("word", "b"), ("var", 0))), ("a", "b"))
        self.same(term_text((APP,) + SAME + WORD), ("w",))

    def test_against_worth(self):
        rng = random.Random(40)
        for _ in range(400):
            term = random_term(rng, LINE)
            self.same(term_text(term), worth(term)(()))
            words = sorted([token[1] for token in term if token[0] == "word"])
            self.assertEqual(sorted(term_text(term)), words)
            self.assertEqual(worth_end(term, 0), len(term))

    def test_function_text(self):
        for book, functions in function_samples(41, 60):
            for tree in start_trees(book, 5)[:40]:
                self.same(function_text(book, functions, tree), worth(tree_term(book, functions, tree))(()))
        self.same(function_text(NEST, MEAN, (0, 1, 1, 2)), ("a", "a", "b", "b"))
        pair = (("lam", LINE), ("lam", LINE), ("lam", ATOM), APP, ("var", 1), APP, ("var", 2), APP, ("word", "x"),
                ("var", 0))
        one = ("functions", (LINE,), (WORD, pair))
        self.same(function_text(PAIRS, one, (1, 0, 1, 0, 0)), ("w", "w", "x", "w", "x"))
        self.assertEqual(len(function_text(PAIRS, one, (1, 0) * 499 + (0,))), 999)
        self.assertEqual(len(function_text(PAIRS, one, (1,) * 499 + (0,) * 500)), 999)


if __name__ == "__main__":
    unittest.main()
