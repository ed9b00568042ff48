"""Translations, papers that there is none, and translations back [83] to [85], [91], G10."""

import itertools
import random
import unittest

from everytongue.erasing import erased
from everytongue.errors import TooMuch
from everytongue.formchecker import lets_form
from everytongue.lifting import lifted
from everytongue.noreading import no_reading
from everytongue.notranslation import lets_no_translation, no_translation
from everytongue.readings import count_readings, readings
from everytongue.returning import back_and_forth
from everytongue.states import state_made, state_says, states_of
from everytongue.translating import translated, translations
from everytongue.treecounts import count_trees
from everytongue.trimming import trimmed
from asking import Asking
from samples import BAD_BOOKS, EMPTY, MEAN, NEST, PAIRS, SPLIT, WALK, slow_texts, start_trees
from waysamples import BAD_TEXTS, BAD_TONGUES, HALT, NET, slow_says, tongue_samples

COUNT = ("pieces", (1, 1), ((((0, 0),),), (("x", (0, 0)),), ((),)))
NONE = ("walker", 1, ())
BAD_MOSTS = (-1, True, None, "1", (1,))
BINARY = ("pieces", (1,), ((("x",),), (((0, 0), (1, 0)),)))
# A tree is said with brackets around its pairs.
BRACKETS = ("pieces", (1,), ((("x",),), (("[", (0, 0), (1, 0), "]"),)))
ROUND = (1, (0,), ((0, ()), (0, (0,))))
ROUND_SAID = ("pieces", (1,), ((("a",),), (((0, 0),),)))
ROUND_MORE = ("pieces", (1,), ((("a",),), (("b", (0, 0)),)))


def pairs_of_tongues(seed, many):
    """Books with two tongues each and texts to translate."""
    rng = random.Random(seed)
    for book, tongues in tongue_samples(seed, many):
        trees = start_trees(book, 6)
        if len(trees) > 60:
            continue
        for _ in range(5):
            one, other = rng.choice(tongues), rng.choice(tongues)
            texts = sorted({slow_says(book, one, tree) for tree in trees} - {None}, key=lambda text: (len(text), text))
            for text in texts[:2] + [("a",), ("b", "q")]:
                yield book, one, text, other
    for one, other in itertools.product((SPLIT, WALK, MEAN, NET, HALT, COUNT, NONE), repeat=2):
        for text in ((), ("a", "b"), ("x",), ("b",)):
            yield NEST, one, text, other


def is_whole(book, one, text, most):
    """Whether all readings of the text are among the trees of so many nodes."""
    many = count_readings(book, one, text)
    listed = [tree for tree in start_trees(book, most) if slow_says(book, one, tree) == text]
    return many == len(listed)


class Translations(Asking):

    def test_listed_readings(self):
        some, papers, ways = 0, 0, {}
        for book, one, text, other in pairs_of_tongues(150, 40):
            made, erase, said = form = translations(book, one, text, other)
            lets_form(book, form)
            self.same(trimmed(made), made)
            listed = [tree for tree in start_trees(book, 6) if slow_says(book, one, tree) == text]
            listed = [tree for tree in listed if slow_says(book, other, tree) is not None]
            trees = start_trees(made, 6)
            self.same(sorted(erased(form, tree) for tree in trees), sorted(listed))
            for tree in trees:
                self.same(slow_texts(made, said, tree), (slow_says(book, other, erased(form, tree)),))
            due = tuple(sorted({slow_says(book, other, tree) for tree in listed}))
            some += len(due)
            paper = no_translation(book, one, text, other)
            self.assertEqual(paper is None, count_trees(made) != 0)
            if paper is not None:
                papers += 1
                ways[paper[0]] = True
                self.paper(book, one, text, other, paper)
            if is_whole(book, one, text, 6):
                self.whole(book, one, text, other, due)
        self.assertTrue(some > 150 and papers > 150 and len(ways) == 2, (some, papers))

    def whole(self, book, one, text, other, due):
        """All translations are known."""
        for most in (len(due), len(due) + 1, 400):
            self.same(translated(book, one, text, other, most), due)
        if due:
            self.refused(TooMuch, ("sentences",), translated, book, one, text, other, len(due) - 1)
            self.refused(TooMuch, ("sentences",), back_and_forth, book, one, text, other, len(due) - 1)
        if all([is_whole(book, other, back, 6) for back in due]):
            trees = [tree for tree in start_trees(book, 6) if slow_says(book, other, tree) in due]
            there = tuple(sorted({slow_says(book, one, tree) for tree in trees} - {None}))
            most = max(len(due), len(there))
            self.same(back_and_forth(book, one, text, other, most), there)
            self.same(back_and_forth(book, one, text, other, most + 1), there)
            if most > 0:
                self.refused(TooMuch, ("sentences",), back_and_forth, book, one, text, other, most - 1)
            self.assertEqual(text in there, len(due) > 0)

    def paper(self, book, one, text, other, paper):
        """The paper is as told, and accepted."""
        form = readings(book, one, text)
        if paper[0] == "unread":
            self.same(paper, ("unread", no_reading(book, one, text)))
            self.assertEqual(count_readings(book, one, text), 0)
            self.same(lets_no_translation(book, one, text, other, ("unsaid", ())), "unsaid")
        else:
            self.same(paper, ("unsaid", states_of(form[0], lifted(book, form, other))))
            self.invalid("shape", -1, lets_no_translation, book, one, text, other, ("unread", ()))
        self.same(lets_no_translation(book, one, text, other, paper), paper[0])

    def test_many(self):
        told = translated(PAIRS, BINARY, ("x",) * 7, BRACKETS, 132)
        self.assertEqual(len(told), 132)
        self.assertTrue(all([text.count("[") == 6 for text in told]))
        self.refused(TooMuch, ("sentences",), translated, PAIRS, BINARY, ("x",) * 7, BRACKETS, 131)
        self.same(back_and_forth(PAIRS, BINARY, ("x",) * 5, BRACKETS, 14), (("x",) * 5,))
        self.refused(TooMuch, ("sentences",), back_and_forth, PAIRS, BINARY, ("x",) * 5, BRACKETS, 13)
        bracketed = ("[", "x", "[", "x", "x", "]", "]")
        self.same(translated(PAIRS, BRACKETS, bracketed, BINARY, 1), (("x",) * 3,))
        self.same(back_and_forth(PAIRS, BRACKETS, bracketed, BINARY, 2),
                  (("[", "[", "x", "x", "]", "x", "]"), bracketed))
        self.refused(TooMuch, ("sentences",), back_and_forth, PAIRS, BRACKETS, bracketed, BINARY, 1)

    def test_endless(self):
        # Endlessly many readings with one translation, and with endlessly many.
        self.same(translated(ROUND, ROUND_SAID, ("a",), ROUND_SAID, 1), (("a",),))
        self.refused(TooMuch, ("sentences",), translated, ROUND, ROUND_SAID, ("a",), ROUND_SAID, 0)
        self.refused(TooMuch, ("sentences",), translated, ROUND, ROUND_SAID, ("a",), ROUND_MORE, 400)
        self.refused(TooMuch, ("sentences",), back_and_forth, ROUND, ROUND_SAID, ("a",), ROUND_MORE, 400)
        # One translation, endlessly many back.
        self.same(translated(ROUND, ROUND_MORE, ("b", "a"), ROUND_SAID, 1), (("a",),))
        self.refused(TooMuch, ("sentences",), back_and_forth, ROUND, ROUND_MORE, ("b", "a"), ROUND_SAID, 400)
        self.same(translated(ROUND, ROUND_SAID, ("b",), ROUND_MORE, 0), ())
        self.same(back_and_forth(ROUND, ROUND_SAID, ("b",), ROUND_MORE, 0), ())

    def test_texts_back_are_more_than_those_there(self):
        # Two readings of the one translation of each say unlike texts.
        book = (1, (0,), ((0, ()), (0, ()), (0, ())))
        one = ("pieces", (1,), ((("a",),), (("b",),), (("c",),)))
        other = ("pieces", (1,), ((("x",),), (("x",),), (("x",),)))
        self.same(back_and_forth(book, one, ("b",), other, 3), (("a",), ("b",), ("c",)))
        self.refused(TooMuch, ("sentences",), back_and_forth, book, one, ("b",), other, 2)
        # Three translations, each with one text back, all alike.
        self.same(back_and_forth(book, other, ("x",), one, 3), (("x",),))
        self.refused(TooMuch, ("sentences",), back_and_forth, book, other, ("x",), one, 2)

    def test_texts_back_from_several_translations(self):
        # Each of two translations has two texts back, and both together have three.
        book = (1, (0,), ((0, ()),) * 4)
        one = ("pieces", (1,), ((("w",),), (("w",),), (("u",),), (("v",),)))
        other = ("pieces", (1,), ((("x",),), (("y",),), (("x",),), (("y",),)))
        self.same(translated(book, one, ("w",), other, 2), (("x",), ("y",)))
        self.same(back_and_forth(book, one, ("w",), other, 3), (("u",), ("v",), ("w",)))
        self.refused(TooMuch, ("sentences",), back_and_forth, book, one, ("w",), other, 2)
        self.refused(TooMuch, ("sentences",), back_and_forth, book, one, ("w",), other, 1)

    def test_edges(self):
        nothing = ("pieces", (), ())
        self.same(translated(EMPTY, nothing, (), nothing, 0), ())
        self.same(no_translation(EMPTY, nothing, (), nothing), ("unread", ()))
        self.same(translations(EMPTY, nothing, ("a",), nothing), ((0, (), ()), (), ("pieces", (), ())))
        self.same(no_translation(NEST, SPLIT, (), HALT), None)
        self.same(translated(NEST, SPLIT, (), HALT, 1), ((),))
        self.same(no_translation(NEST, SPLIT, ("a", "b"), HALT)[0], "unsaid")
        self.same(translated(NEST, SPLIT, ("a", "b"), HALT, 0), ())
        self.same(no_translation(NEST, NONE, ("a", "b"), SPLIT), ("unread", ()))

    def test_parameters(self):
        good = {"book": NEST, "one": SPLIT, "words": ("a", "b"), "other": COUNT}
        bad = {"book": BAD_BOOKS, "one": BAD_TONGUES, "words": BAD_TEXTS, "other": BAD_TONGUES[:12] + BAD_TONGUES[-4:]}
        self.asks(translations, good, bad)
        self.asks(no_translation, good, bad)
        self.asks(translated, dict(good, most=2), dict(bad, most=BAD_MOSTS))
        self.asks(back_and_forth, dict(good, most=2), dict(bad, most=BAD_MOSTS))
        paper = no_translation(NEST, SPLIT, ("b",), COUNT)
        self.asks(lets_no_translation, dict(good, words=("b",), thing=paper), bad, ("thing",))
        # What is not as stated goes ahead of what is too much.
        self.not_usable("most", translated, ROUND, ROUND_SAID, ("a",), ROUND_MORE, -1)
        self.not_usable("most", back_and_forth, ROUND, ROUND_SAID, ("a",), ROUND_MORE, True)


class NoTranslation(Asking):

    def slow_fault(self, book, one, text, other, thing):
        """The first entry of what the list tells of "unsaid", word for word, or None."""
        form = readings(book, one, text)
        tongue = lifted(book, form, other)
        made = form[0]
        if type(thing) is not tuple or len(thing) != made[0]:
            return ("states", -1)
        for s, states in enumerate(thing):
            if type(states) is not tuple or not all([self.is_state(tongue, state) for state in states]):
                return ("states", s)
            if list(states) != sorted(set(states)):
                return ("states", s)
        for k, (result, kids) in enumerate(made[2]):
            for row in itertools.product(*[thing[kid] for kid in kids]):
                if state_made(made, tongue, k, row) not in thing[result]:
                    return ("open", k)
        for s in made[1]:
            if any([state_says(made, tongue, state) for state in thing[s]]):
                return ("start", s)
        return None

    def is_state(self, tongue, thing):
        """Whether thing has the form of a state of a walker."""
        if type(thing) is not tuple or len(thing) != tongue[1]:
            return False
        return all([type(state) is int and -1 <= state < tongue[1] for state in thing])

    def test_spoilt(self):
        rng = random.Random(151)
        words = {}
        for book, one, text, other in pairs_of_tongues(151, 120):
            form = readings(book, one, text)
            if other[0] != "walker" or len(form[0][2]) > 30:
                continue
            told = states_of(form[0], lifted(book, form, other))
            for _ in range(4):
                paper = list(told)
                if paper:
                    s = rng.randrange(len(paper))
                    states = [state for state in paper[s] if rng.random() < 0.8]
                    if rng.random() < 0.5:
                        states = sorted(set(states) | {tuple([rng.randrange(-1, other[1]) for _ in range(other[1])])})
                    if rng.random() < 0.2:
                        states.append(rng.choice((None, (other[1],) * other[1], (-2,) * other[1], (True,) * other[1], (0,) * 9,
                                                  [0] * other[1], (-1,) * other[1])))
                    paper[s] = tuple(states)
                paper = ("unsaid", tuple(paper))
                due = self.slow_fault(book, one, text, other, paper[1])
                words[due and due[0]] = True
                if due is None:
                    self.same(lets_no_translation(book, one, text, other, paper), "unsaid")
                else:
                    self.invalid(due[0], due[1], lets_no_translation, book, one, text, other, paper)
        self.assertEqual(set(words), {None, "states", "open", "start"})

    def test_words_and_places(self):
        check = lambda thing: (lets_no_translation, NEST, SPLIT, ("a", "b"), HALT, thing)
        good = no_translation(NEST, SPLIT, ("a", "b"), HALT)
        paper = good[1]
        self.assertEqual([len(row) for row in paper], [1, 1, 1])
        for thing in (None, (), ("unsaid",), good + ((),), list(good), ("said", paper), (True, paper), "unsaid", ((), ())):
            self.invalid("shape", -1, *check(thing))
        for thing in (None, (), list(paper), paper[:2], paper + ((),), "abc"):
            self.invalid("states", -1, *check(("unsaid", thing)))
        for s in range(3):
            for row in (None, [(-1,)], ((-1,), (-1,)), ((0,), (-1,)), ((1,),), ((-2,),), ((True,),), ((),), ((0, 0),), (0,),
                        ([0],), (None,)):
                self.invalid("states", s, *check(("unsaid", paper[:s] + (row,) + paper[s + 1:])))
        self.invalid("states", 0, *check(("unsaid", (None,) * 3)))
        cons = readings(NEST, SPLIT, ("a", "b"))[0][2]
        for k, (result, kids) in enumerate(cons):
            self.invalid("open", k, *check(("unsaid", paper[:result] + ((),) + paper[result + 1:])))
        start = readings(NEST, SPLIT, ("a", "b"))[0][1][0]
        self.invalid("start", start, *check(("unsaid", paper[:start] + (((-1,), (0,)),) + paper[start + 1:])))
        # "unread" is asked as by lets_no_reading.
        unread = no_reading(NEST, SPLIT, ("a",))
        ask = lambda thing: (lets_no_translation, NEST, SPLIT, ("a",), HALT, ("unread", thing))
        self.same(lets_no_translation(*ask(unread)[1:]), "unread")
        self.invalid("shape", -1, *ask(()))
        self.invalid("items", 1, *ask((unread[0], None)))
        self.invalid("open", 0, *ask(((), unread[1])))
        more = tuple(sorted(unread[0] + (((0, 1),),)))
        self.invalid("start", 0, *ask((more, unread[1])))
        # Of pieces and functions each state is (), of webs a shape.
        one = readings(NEST, NET, ("a", "b"))
        self.invalid("start", one[0][1][0], lets_no_translation, NEST, NET, ("a", "b"), MEAN, ("unsaid", (((),),) * 3))
        self.invalid("states", 1, lets_no_translation, NEST, NET, ("a", "b"), SPLIT, ("unsaid", (((),), ((), ()), ((),))))
        self.invalid("states", 0, lets_no_translation, NEST, NET, ("a", "b"), NET, ("unsaid", ((((1, 0), (0, 1)),),) * 3))
        dead = ((((0, 0),),),) * 3
        self.invalid("open", one[0][2].index(next(con for con in one[0][2] if not con[1])),
                     lets_no_translation, NEST, NET, ("a", "b"), NET, ("unsaid", dead))


if __name__ == "__main__":
    unittest.main()
