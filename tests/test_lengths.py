"""Endless forms, rows of texts, shortest sentences, growth, counts by words [86] to [90], [92], G10."""

import random
import unittest

from everytongue.errors import TooMuch
from everytongue.growth import growth
from everytongue.growthchecker import lets_growth
from everytongue.machines import beginning_machine
from everytongue.making import form_of
from everytongue.meets import meet
from everytongue.saying import own_words, texts_said
from everytongue.shortest import shortest
from everytongue.textrows import is_endless, sentences_of, text_rows
from everytongue.treecounts import count_trees, size_counts
from everytongue.trees import is_context, is_tree, put_in, sort_around, sort_of
from everytongue.trimming import trimmed
from everytongue.wordcounts import word_counts
from asking import Asking
from samples import (DEAD, EMPTY, NEST, NO_STARTS, PAIRS, SPLIT, nines_book, power_book, random_book, random_pieces,
                     silent_tongue, slow_texts, start_trees, trees_by_size)
from waysamples import BAD_FORMS, tongue_samples

FORM = (NEST, (0, 1, 2), SPLIT)
DUO = (2, (0,), ((0, (1, 1)), (1, ()), (1, ())))
FEW = (DUO, (0, 1, 2), ("pieces", (1, 1), ((((0, 0), (1, 0)),), (("a",),), ((),))))
NOTHING = (EMPTY, (), ("pieces", (), ()))
# The sort within goes round, in silence, and turns its pieces; one word in all.
TURN = (2, (0,), ((0, (1,)), (1, (1,)), (1, ()), (1, ())))
TURNED = (TURN, (0, 1, 2, 3), ("pieces", (1, 2), ((((0, 0), "c", (0, 1)),), (((0, 1),), ((0, 0),)), (("a",), ()), ((), ()))))
ROUND = (1, (0,), ((0, ()), (0, (0,))))
ROUND_FORM = (ROUND, (0, 1), ("pieces", (1,), ((("a",),), (((0, 0),),))))
# Forms whose made is not trimmed.
UNTRIMMED = ((DEAD, (0, 1, 2), ("pieces", (1, 1, 1), ((((0, 0),),), (("a",),), (((0, 0), (1, 0)),)))),
             (NO_STARTS, (0, 1), ("pieces", (1, 1), ((((0, 0),),), ((),)))),
             ((2, (0,), ((0, ()), (1, ()))), (0, 1), ("pieces", (1, 1), (((),), ((),)))),
             ((1, (0,), ()), (), ("pieces", (1,), ())))
BAD = BAD_FORMS + UNTRIMMED


def form_samples(seed, many):
    """Forms whose made is trimmed, with few rings of words, with silent ones, and such of all ways."""
    rng = random.Random(seed)
    told = [FORM, FEW, NOTHING, TURNED, ROUND_FORM]
    while len(told) < many:
        book = trimmed(random_book(rng, sorts=4, cons=rng.randint(4, 7)))
        if len(book[2]) < 3:
            continue
        pieces = random_pieces(rng, book, width=2, words=("a", "b"))
        if rng.random() < 0.5:
            # Words stand at constructors without kids alone.
            rows = []
            for (_, kids), row in zip(book[2], pieces[2]):
                rows.append(row if not kids else tuple([tuple([i for i in p if isinstance(i, tuple)]) for p in row]))
            pieces = pieces[:2] + (tuple(rows),)
        told.append((book, tuple(range(len(book[2]))), pieces))
    for book, tongues in tongue_samples(seed, 8):
        told.extend([form_of(book, tongue) for tongue in tongues[2:]])
    return told


def listed_rows(form, most):
    """For each sort all rows of trees of so many nodes at most."""
    made, _, said = form
    return [{slow_texts(made, said, tree) for row in rows for tree in row} for rows in trees_by_size(made, most)]


def few_trees(form, most):
    """The greatest size, up to most, such that there are few trees of so many nodes at most."""
    made = form[0]
    counts = [size_counts(made, sort, most) for sort in range(made[0])]
    size = 1
    while size < most and sum([sum(row[:size + 2]) for row in counts]) < 150:
        size += 1
    return size


class Endless(Asking):

    def slow_endless(self, form):
        """Whether some constructor, put around a kid of whose sort it is part again, has words or kids with words."""
        made, _, said = form
        wordy = [any([any(row) for row in rows]) for rows in listed_rows(form, few_trees(form, 7))]
        below = [{s} for s in range(made[0])]
        for _ in range(made[0]):
            for result, kids in made[2]:
                for kid in kids:
                    below[result] |= below[kid]
        for k, (result, kids) in enumerate(made[2]):
            for at, kid in enumerate(kids):
                if result in below[kid]:
                    if own_words(made, said, k) or any([wordy[other] for j, other in enumerate(kids) if j != at]):
                        return True
        return False

    def test_told_from_rings(self):
        endless = 0
        for form in form_samples(160, 200):
            if form[0][0] < 4 and len(form[0][2]) < 8:
                self.same(is_endless(form), self.slow_endless(form))
                endless += is_endless(form)
        self.assertTrue(30 < endless < 170, endless)

    def test_edges(self):
        self.same([is_endless(form) for form in (FORM, FEW, NOTHING, TURNED, ROUND_FORM)], [True] + [False] * 4)
        # Rings whose words stand in another kid; two kids of the ring, one of them with words.
        ring = (2, (0,), ((0, (0, 1)), (0, ()), (1, ())))
        rows = ((((0, 0), (1, 0)),), ((),))
        self.same(is_endless((ring, (0, 1, 2), ("pieces", (1, 1), rows + ((("a",),),)))), True)
        self.same(is_endless((ring, (0, 1, 2), ("pieces", (1, 1), rows + (((),),)))), False)
        self.same(is_endless((PAIRS, (0, 1), ("pieces", (1,), ((("x",),), (((0, 0), (1, 0)),))))), True)
        self.same(is_endless((PAIRS, (0, 1), ("pieces", (1,), (((),), (((0, 0), (1, 0)),))))), False)

    def test_parameters(self):
        for function, good in ((is_endless, FORM), (text_rows, FEW), (shortest, FEW), (growth, FORM)):
            self.asks(function, {"form": good}, {"form": BAD})
        mosts = (-1, True, None, "1", (1,))
        self.asks(sentences_of, {"form": FEW, "most": 5}, {"form": BAD, "most": mosts})
        self.asks(word_counts, {"form": FEW, "most": 5}, {"form": BAD, "most": mosts})
        self.asks(lets_growth, {"form": FEW, "thing": growth(FEW)}, {"form": BAD}, ("thing",))
        self.not_usable("most", sentences_of, FORM, -1)


class Rows(Asking):

    def test_listed_trees(self):
        finite, rows = 0, 0
        for form in form_samples(161, 200):
            made, _, said = form
            if is_endless(form):
                self.refused(TooMuch, ("sentences",), text_rows, form)
                self.refused(TooMuch, ("sentences",), sentences_of, form, 400)
                continue
            finite += 1
            told = text_rows(form)
            self.same(told, tuple([tuple(sorted(set(row))) for row in told]))
            for row, due in zip(told, listed_rows(form, few_trees(form, 9))):
                self.assertTrue(due <= set(row))
                rows += len(due)
            self.from_paper(form, told)
            due = tuple(sorted({row[0] for start in made[1] for row in told[start]}))
            self.same(sentences_of(form, len(due)), due)
            self.same(sentences_of(form, 400), due)
            if due:
                self.refused(TooMuch, ("sentences",), sentences_of, form, len(due) - 1)
        self.assertTrue(finite > 50 and rows > 200, (finite, rows))

    def from_paper(self, form, told):
        """Each row is said by a tree: the one that the ways in growth's paper tell."""
        word, lists = growth(form)
        self.same((word, tuple([tuple([row for row, _ in rows]) for rows in lists])), ("finite", told))
        made, _, said = form
        for sort, rows in enumerate(lists):
            for row, way in list(rows)[:6]:
                tree, todo = (), [(sort, way)]
                while todo:
                    _, (con, places) = todo.pop()
                    tree += (con,)
                    kids = made[2][con][1]
                    todo.extend([(kid, lists[kid][place][1]) for kid, place in zip(kids, places)][::-1])
                self.assertTrue(is_tree(made, sort, tree))
                self.same(texts_said(made, said, tree), row)

    def test_edges(self):
        self.same(text_rows(NOTHING), ())
        self.same(sentences_of(NOTHING, 0), ())
        self.same(text_rows(TURNED), (((("a", "c"),), (("c",),), (("c", "a"),)), (((), ()), ((), ("a",)), (("a",), ()))))
        self.same(sentences_of(TURNED, 3), (("a", "c"), ("c",), ("c", "a")))
        self.same(text_rows(ROUND_FORM), (((("a",),),),))
        self.refused(TooMuch, ("sentences",), sentences_of, FORM, 10 ** 59)
        self.refused(TooMuch, ("sentences",), sentences_of, FEW, 0)

    def test_many_ways_to_few_rows(self):
        # A hundred texts of one kid, four kids: each of 401 texts in very many ways.
        cons = ((0, (1, 1, 1, 1)),) + tuple([(1, ())] * 101)
        book = (2, (0,), cons)
        rows = ((((3, 0), (0, 0), (2, 0), (1, 0)),),) + tuple([(("a",) * k,) for k in range(101)])
        form = (book, tuple(range(102)), ("pieces", (1, 1), rows))
        self.same(sentences_of(form, 401), tuple([("a",) * k for k in range(401)]))
        told = growth(form)
        self.same(lets_growth(form, told), "finite")
        self.invalid("open", 0, lets_growth, form, ("finite", (told[1][0][1:], told[1][1])))

    def test_doubled_texts(self):
        # Ten levels of doubling around one word, and a silent ring at each of them.
        cons = []
        rows = []
        for level in range(8):
            cons.extend([(level, (level + 1,) * 2), (level, (level,))])
            rows.extend([(((0, 0), (1, 0)),), (((0, 0),),)])
        form = ((9, (0,), tuple(cons) + ((8, ()),)), tuple(range(17)), ("pieces", (1,) * 9, tuple(rows) + ((("a",),),)))
        self.same(sentences_of(form, 1), (("a",) * 256,))
        self.same(word_counts(form, 257), (0,) * 256 + (None, 0))
        self.same(lets_growth(form, growth(form)), "finite")


class Shortest(Asking):

    def test_listed_trees(self):
        some = 0
        for form in form_samples(162, 200):
            made, _, said = form
            told = shortest(form)
            trees = start_trees(made, few_trees(form, 7))
            self.assertEqual(told is None, count_trees(made) == 0)
            if told is None:
                continue
            some += 1
            text, tree = told
            self.assertTrue(sort_of(made, tree) in made[1])
            self.same(texts_said(made, said, tree), (text,))
            costs = [(len(slow_texts(made, said, other)[0]), len(other)) for other in trees]
            self.assertTrue(all([(len(text), len(tree)) <= cost for cost in costs]))
            if len(text) <= 8:
                counts = word_counts(form, 8)
                self.assertEqual([count != 0 for count in counts].index(True), len(text))
            ahead = meet(form, beginning_machine((), ("a", "b", "c")))
            if set(words for row in said[2] for piece in row for words in piece if isinstance(words, str)) <= {"a", "b", "c"}:
                self.assertEqual(len(shortest(ahead)[0]), len(text))
        self.assertTrue(some > 150, some)

    def test_edges(self):
        self.same(shortest(NOTHING), None)
        self.same(shortest(FORM), ((), (0, 2)))
        # Fewer words go ahead of fewer nodes.
        book = (2, (0,), ((0, ()), (0, (1,)), (1, ()), (1, (1,)), (1, (1,))))
        form = (book, (0, 1, 2, 3, 4), ("pieces", (1, 1), ((("a",),), (((0, 0),),), (("b", "c"),), (((0, 0),),), (((0, 0),),))))
        self.same(shortest(form), (("a",), (0,)))
        form = (book, (0, 1, 2, 3, 4), ("pieces", (1, 1), ((("a",),), (((0, 0),),), ((),), (((0, 0),),), (((0, 0),),))))
        self.same(shortest(form), ((), (1, 2)))

    def test_sizes_at_the_bound(self):
        for many in (998, 999):
            chain = tuple([(k, (k + 1,)) for k in range(many)])
            book = (many + 1, (0,), chain + ((many, ()), (many, (many,))))
            form = (book, tuple(range(len(book[2]))), silent_tongue(book, ("a",)))
            if many == 998:
                self.same(shortest(form), (("a",), tuple(range(999))))
            else:
                self.same(shortest(form), (("a",), tuple(range(1000))))
        chain = tuple([(k, (k + 1,)) for k in range(1000)])
        book = (1001, (0,), chain + ((1000, ()),))
        self.refused(TooMuch, ("tree",), shortest, (book, tuple(range(1001)), silent_tongue(book)))
        # A smaller tree says more.
        book = (1001, (0,), chain + ((1000, ()), (0, ())))
        rows = silent_tongue(book)[2][:-1] + ((("a",),),)
        self.refused(TooMuch, ("tree",), shortest, (book, tuple(range(1002)), ("pieces", (1,) * 1001, rows)))


class Growth(Asking):

    def test_papers(self):
        endless, finite = 0, 0
        for form in form_samples(163, 200):
            made, _, said = form
            told = growth(form)
            self.same(lets_growth(form, told), told[0])
            self.assertEqual(told[0] == "endless", is_endless(form))
            if told[0] == "finite":
                finite += 1
                self.not_accepted(form, ("endless", told[1]))
                continue
            endless += 1
            outer, inner, tree = told[1]
            sort = sort_of(made, tree)
            self.assertTrue(is_context(made, sort, inner) and is_context(made, sort, outer))
            self.assertEqual(sort_around(made, sort, inner), sort)
            self.assertIn(sort_around(made, sort, outer), made[1])
            lengths = []
            for _ in range(3):
                lengths.append(len(texts_said(made, said, put_in(outer, tree))[0]))
                tree = put_in(inner, tree)
            self.assertTrue(lengths[0] < lengths[1] < lengths[2])
            self.assertEqual(lengths[2] - lengths[1], lengths[1] - lengths[0])
            self.not_accepted(form, ("finite", told[1]))
            self.not_accepted(form, ("finite", ((),) * made[0]))
        self.assertTrue(endless > 30 and finite > 30, (endless, finite))

    def not_accepted(self, form, thing):
        """The checker refuses the paper."""
        with self.assertRaises(Exception) as caught:
            lets_growth(form, thing)
        self.assertEqual(type(caught.exception).__name__, "InvalidPaper")

    def test_endless_words(self):
        outer, inner, tree = good = ((0, -1), (1, -1), (2,))
        self.same(lets_growth(FORM, ("endless", good)), "endless")
        self.same(lets_growth(FORM, ("endless", ((0, 1, -1), (1, 1, -1), (1, 2)))), "endless")
        for thing in (None, (), ("endless",), ("endless", good, good), ["endless", good], ("ended", good), (True, good), "ab",
                      ("endless", None), ("endless", good[:2]), ("endless", good + (1,)), ("endless", list(good)), ((), ())):
            self.invalid("shape", -1, lets_growth, FORM, thing)
        for tree in (None, (), (0,), (3,), [2], (True, 2), (-1,), (2, 2), "2", 2, (0, -1)):
            self.invalid("tree", -1, lets_growth, FORM, ("endless", (outer, inner, tree)))
            self.invalid("tree", -1, lets_growth, FORM, ("endless", (None, None, tree)))
        for inner in (None, (), (1,), (1, 2), (0, -1), (1, -1, -1), [1, -1], (True, -1), (1, -1, 2), (3, -1), (-1, -1), "1", -1):
            self.invalid("inner", -1, lets_growth, FORM, ("endless", (None, inner, (2,))))
        for outer in (None, (), (1, -1), (-1,), (0, 2), [0, -1], (0, 1), (False, -1), (0, -1, -1), 0):
            self.invalid("outer", -1, lets_growth, FORM, ("endless", (outer, (-1,), (2,))))
        self.invalid("words", -1, lets_growth, FORM, ("endless", ((0, -1), (-1,), (2,))))
        # The hole is no constructor, so it has no words either.
        book = (1, (0,), ((0, (0,)), (0, ())))
        self.invalid("words", -1, lets_growth, (book, (0, 1), ("pieces", (1,), ((("b", (0, 0)),), (("a",),)))),
                     ("endless", ((-1,), (-1,), (1,))))
        # A start sort around itself: the outer context may be the hole.
        book = (1, (0,), ((0, (0,)), (0, ())))
        form = (book, (0, 1), ("pieces", (1,), ((("a", (0, 0)),), ((),))))
        self.same(lets_growth(form, ("endless", ((-1,), (0, -1), (1,)))), "endless")
        self.invalid("words", -1, lets_growth, (book, (0, 1), ("pieces", (1,), ((((0, 0),),), ((),)))),
                     ("endless", ((-1,), (0, -1), (1,))))

    def test_finite_words(self):
        word, lists = growth(FEW)
        self.same((word, lists), ("finite", lists))
        check = lambda thing: (lets_growth, FEW, ("finite", thing))
        for thing in (None, (), lists[:1], lists + ((),), list(lists), (lists[0], None), ([], ()), 2):
            self.invalid("lists", -1, *check(thing))
        for s in (0, 1):
            for at in range(len(lists[s])):
                row, (con, places) = lists[s][at]
                pairs = (None, (), (row,), [row, (con, places)], (list(row), (con, places)), (row + ((),), (con, places)),
                         ((), (con, places)), (("a",), (con, places)), (row, None), (row, (con,)), (row, [con, places]),
                         (row, (3, places)), (row, (-1, places)), (row, (True, places)), (row, (con, list(places))),
                         (row, (con, places + (0,))), (row, (con, None)), (row, (2 - 2 * s, (0, 0)[:2 * s])),
                         (row, (con, places), 0), ((("",),), (con, places)))
                for pair in pairs:
                    told = lists[s][:at] + (pair,) + lists[s][at + 1:]
                    self.invalid("lists", s, *check(lists[:s] + (told,) + lists[s + 1:]))
            self.invalid("lists", s, *check(lists[:s] + (lists[s][::-1],) + lists[s + 1:]))
            self.invalid("lists", s, *check(lists[:s] + (lists[s] + lists[s][-1:],) + lists[s + 1:]))
        for places in ((0, 2), (2, 0), (-1, 0), (0, True), (0,), (0, None)):
            told = ((lists[0][0][0], (0, places)),) + lists[0][1:]
            self.invalid("lists", 0, *check((told, lists[1])))
        self.invalid("open", 0, *check((lists[0][:2], lists[1])))
        self.invalid("open", 1, *check(((), ())))
        self.invalid("open", 2, *check((((((("a", "a"),), (0, (0, 0))),), (((("a",),), (1, ())),)))))
        # The row is not made by its way: the first sort with such a row.
        wrong = ((((),), (0, (0, 1))),) + lists[0][1:]
        self.invalid("row", 0, *check((wrong, lists[1])))
        self.invalid("row", 1, *check((lists[0], ((((),), (1, ())), lists[1][1]))))
        self.invalid("row", 0, *check((wrong, ((((),), (1, ())), lists[1][1]))))
        # More rows than there are, made as told by a ring alone.
        self.same(growth(ROUND_FORM), ("finite", ((((("a",),), (0, ())),),)))
        self.invalid("ring", 0, lets_growth, ROUND_FORM, ("finite", ((((("a",),), (1, (0,))),),)))
        self.invalid("ring", 0, lets_growth, ROUND_FORM, ("finite", (((((),), (1, (0,))), ((("a",),), (0, ()))),)))

    def test_rings_of_several_sorts(self):
        word, lists = growth(TURNED)
        self.same(lets_growth(TURNED, (word, lists)), "finite")
        rows = [row for row, _ in lists[1]]
        self.same(rows, [((), ()), ((), ("a",)), (("a",), ())])
        round_ways = (lists[1][0], (rows[1], (1, (2,))), (rows[2], (1, (1,))))
        # A pair of sort 0 leads into the ring though it is in none.
        self.invalid("ring", 0, lets_growth, TURNED, ("finite", (lists[0], round_ways)))
        # None does.
        book = (TURN[0], TURN[1], TURN[2] + ((0, ()),))
        rows = (((((0, 0), (0, 1)),), (((0, 1),), ((0, 0),)), (("a",), ()), ((), ()), (("a",),)))
        form = (book, (0, 1, 2, 3, 4), ("pieces", (1, 2), rows))
        ahead = ((((),), (0, (0,))), ((("a",),), (4, ())))
        told = [(((), ()), (3, ())), (((), ("a",)), (1, (2,))), ((("a",), ()), (2, ()))]
        self.same(lets_growth(form, ("finite", (ahead, tuple(told)))), "finite")
        told[2] = ((("a",), ()), (1, (1,)))
        self.invalid("ring", 1, lets_growth, form, ("finite", (ahead, tuple(told))))
        self.invalid("ring", 0, lets_growth, form, ("finite", ((ahead[0], ((("a",),), (0, (2,)))), tuple(told))))

    def test_sizes_at_the_bound(self):
        """Each of the three contexts and trees has at most a thousand nodes, or one has more in each triple."""
        for outer, inner, tree in ((999, 1, 1), (1000, 1, 1), (1001, 1, 1), (1, 1000, 1), (1, 1001, 1), (0, 1, 1000),
                                   (0, 1, 1001), (1000, 1000, 1000), (1000, 1000, 1001)):
            form = self.chained(outer, inner, tree)
            with self.subTest(sizes=(outer, inner, tree)):
                self.assertTrue(is_endless(form))
                if max(outer, inner, tree) > 1000:
                    self.refused(TooMuch, ("tree",), growth, form)
                else:
                    told = growth(form)
                    self.same(lets_growth(form, told), "endless")

    def chained(self, outer, inner, tree):
        """A form whose only sort with a ring has these least sizes around it, round it and in it."""
        cons, rows = [], []
        # Sorts 0 to outer lead to the ring's sort, outer; from there further ones lead round or down.
        for k in range(outer):
            cons.append((k, (k + 1,)))
        ring, sort = outer, outer
        size = outer + 1
        for k in range(inner - 1):
            cons.append((sort, (size,)))
            sort, size = size, size + 1
        rows = [(((0, 0),),)] * len(cons)
        cons.append((sort, (ring,)))
        rows.append((("a", (0, 0)),))
        sort = ring
        for k in range(tree - 1):
            cons.append((sort, (size,)))
            rows.append((((0, 0),),))
            sort, size = size, size + 1
        cons.append((sort, ()))
        rows.append(((),))
        book = (size, (0,), tuple(cons))
        return (book, tuple(range(len(cons))), ("pieces", (1,) * size, tuple(rows)))

    def test_words_beside_the_hole(self):
        """The only words stand in a great tree beside the hole, which has a small one without words, too."""
        for many in (1, 2, 500, 998, 999):
            for at in (0, 1):
                # Sort 0 goes round beside sort 1; from there many constructors lead to a word.
                kids = (0, 1) if at == 0 else (1, 0)
                cons = [(0, kids), (0, ()), (1, ())] + [(k, (k + 1,)) for k in range(1, many)] + [(many, ())]
                rows = [(((0, 0), (1, 0)),), ((),), ((),)] + [(((0, 0),),)] * (many - 1) + [(("a",),)]
                form = ((many + 1, (0,), tuple(cons)), tuple(range(len(cons))), ("pieces", (1,) * (many + 1), tuple(rows)))
                told = growth(form)
                self.same(lets_growth(form, told), "endless")
                tree = tuple(range(3, len(cons)))
                self.same(told[1], ((-1,), (0, -1) + tree if at == 0 else (0,) + tree + (-1,), (1,)))
        # One more node is too much.
        cons = [(0, (0, 1)), (0, ()), (1, ())] + [(k, (k + 1,)) for k in range(1, 1000)] + [(1000, ())]
        rows = [(((0, 0), (1, 0)),), ((),), ((),)] + [(((0, 0),),)] * 999 + [(("a",),)]
        form = ((1001, (0,), tuple(cons)), tuple(range(len(cons))), ("pieces", (1,) * 1001, tuple(rows)))
        self.refused(TooMuch, ("tree",), growth, form)
        # Beside two holes of unlike least trees, the one with words at less is taken.
        cons = ((0, (0, 1, 2)), (0, ()), (1, ()), (1, (1, 1)), (2, (3,)), (3, ()), (3, (3,)))
        rows = ((((0, 0), (1, 0), (2, 0)),), ((),), ((),), (("a", (0, 0), (1, 0)),), (((0, 0),),), ((),), (("b", (0, 0)),))
        form = ((4, (0,), cons), tuple(range(7)), ("pieces", (1,) * 4, rows))
        self.same(growth(form), ("endless", ((-1,), (0, -1, 2, 4, 6, 5), (1,))))

    def test_another_sort_of_the_ring(self):
        # The tree of the start sort is too great; a sort further in has a small one.
        cons = [(0, (1,)), (1, (0,)), (1, ())]
        for k in range(2, 1002):
            cons.append((k, (k + 1,)))
        cons.extend([(1002, ()), (0, (2, 0))])
        rows = [(((0, 0),),)] * 2 + [((),)] + [(((0, 0),),)] * 1000 + [(("a",),), (((0, 0), (1, 0)),)]
        form = ((1003, (0,), tuple(cons)), tuple(range(len(cons))), ("pieces", (1,) * 1003, tuple(rows)))
        # The only words stand in a tree too great, and each inner context needs it.
        self.refused(TooMuch, ("tree",), growth, form)
        cons.append((2, ()))
        rows.append((("b",),))
        form = ((1003, (0,), tuple(cons)), tuple(range(len(cons))), ("pieces", (1,) * 1003, tuple(rows)))
        told = growth(form)
        self.same(lets_growth(form, told), "endless")
        # The least tree beside the hole has no words, a greater one has.
        book = (2, (0,), ((0, (0, 1)), (0, ()), (1, ()), (1, (1,)), (1, (1,))))
        rows = ((((0, 0), (1, 0)),), ((),), ((),), (((0, 0),),), (("c", (0, 0)),))
        form = (book, tuple(range(5)), ("pieces", (1, 1), rows))
        self.same(growth(form), ("endless", ((-1,), (0, -1, 4, 2), (1,))))


class WordCounts(Asking):

    def slow_counts(self, form, most):
        """By trees up to a size: all of those with so few words, if no ring adds a tree."""
        made, _, said = form
        counts = [0] * (most + 1)
        for tree in start_trees(made, few_trees(form, 9)):
            words = sum([own_words(made, said, con) for con in tree])
            if words <= most:
                counts[words] += 1
        return counts

    def test_listed_trees(self):
        compared, nones = 0, 0
        for form in form_samples(164, 250):
            told = word_counts(form, 5)
            self.assertEqual(len(told), 6)
            listed = self.slow_counts(form, 5)
            for count, least in zip(told, listed):
                self.assertTrue(count is None or count >= least)
                nones += count is None
            self.same(word_counts(form, 3), told[:4])
            many = count_trees(form[0])
            if many is not None:
                self.assertTrue(None not in told and sum(told) <= many)
                if not is_endless(form):
                    longest = max([len(text) for text in sentences_of(form, 400)], default=0)
                    self.assertEqual(sum(word_counts(form, longest)), many)
                compared += 1
                if many == len(start_trees(form[0], few_trees(form, 6))):
                    self.assertEqual(list(told), listed)
        self.assertTrue(compared > 40 and nones > 60, (compared, nones))

    def test_trees_with_a_word_each(self):
        """Where each constructor has a word, trees of n words have at most n nodes."""
        rng = random.Random(165)
        for _ in range(150):
            book = trimmed(random_book(rng, sorts=3, cons=5, most_kids=4))
            rows = []
            for result, kids in book[2]:
                piece = [(kid, 0) for kid in range(len(kids))] + ["w"] * rng.choice((1, 1, 2))
                rng.shuffle(piece)
                rows.append((tuple(piece),))
            form = (book, tuple(range(len(rows))), ("pieces", (1,) * book[0], tuple(rows)))
            counts = [0] * 7
            for tree in start_trees(book, 6):
                words = len(slow_texts(book, form[2], tree)[0])
                if words <= 6:
                    counts[words] += 1
            self.same(word_counts(form, 6), tuple(counts))

    def test_none_at_some_lengths(self):
        # Around "a" there is a silent ring, around "b", "b" none.
        book = (2, (0,), ((0, (1,)), (0, ()), (1, ()), (1, (1,))))
        form = (book, (0, 1, 2, 3), ("pieces", (1, 1), ((((0, 0),),), (("b", "b"),), (("a",),), (((0, 0),),))))
        self.same(word_counts(form, 3), (0, None, 1, 0))
        # A ring of two sorts, one of which says a word more beside it.
        book = (3, (0,), ((0, (1,)), (1, (0,)), (1, (2, 2)), (2, ()), (2, ()), (0, ())))
        form = (book, tuple(range(6)), ("pieces", (1,) * 3, ((((0, 0),),), (((0, 0),),), (((1, 0), (0, 0)),), (("a",),),
                                                             ((),), (("c", "c", "c"),))))
        self.same(word_counts(form, 4), (None, None, None, None, 0))
        # The ring stands beside another kid, which says a word or none: it is silent in trees alone where that says none.
        book = (2, (0,), ((0, (0, 1)), (0, ()), (1, ()), (1, ())))
        form = (book, tuple(range(4)), ("pieces", (1, 1), ((((0, 0), (1, 0)),), ((),), (("a",),), ((),))))
        self.same(word_counts(form, 2), (None, None, None))
        form = (book, tuple(range(4)), ("pieces", (1, 1), ((((0, 0), (1, 0)),), ((),), (("a",),), (("b",),))))
        self.same(word_counts(form, 3), (1, 2, 4, 8))
        # Two of the ring's sort as kids.
        form = (PAIRS, (0, 1), ("pieces", (1,), ((("x",),), (((0, 0), (1, 0)),))))
        self.same(word_counts(form, 6), (0, 1, 1, 2, 5, 14, 42))
        form = ((1, (0,), PAIRS[2] + ((0, ()),)), (0, 1, 2), ("pieces", (1,), ((("x",),), (((0, 0), (1, 0)),), ((),))))
        self.same(word_counts(form, 2), (None, None, None))

    def test_edges(self):
        self.same(word_counts(NOTHING, 0), (0,))
        self.same(word_counts(NOTHING, 3), (0,) * 4)
        self.same(word_counts(FORM, 0), (1,))
        self.same(word_counts(TURNED, 2), (0, None, None))
        self.same(word_counts(FORM, 400), (1, 0) * 200 + (1,))

    def test_too_much(self):
        book = power_book(4000)
        form = (book, tuple(range(len(book[2]))), silent_tongue(book))
        self.refused(TooMuch, ("count",), word_counts, form, 0)
        book = trimmed(nines_book(4000))
        form = (book, tuple(range(len(book[2]))), silent_tongue(book))
        self.same(word_counts(form, 1), (10 ** 4000 - 1, 0))
        # Where there are endlessly many, it is not too much; nor beyond most.
        size, starts, cons = power_book(4000)
        round_book = (size, starts, cons + ((starts[0], starts),))
        rows = silent_tongue(round_book)[2]
        form = (round_book, tuple(range(len(rows))), ("pieces", (1,) * size, rows))
        self.same(word_counts(form, 2), (None, 0, 0))
        wordy = rows[:-1] + ((("a", (0, 0)),),)
        self.refused(TooMuch, ("count",), word_counts, form[:2] + (("pieces", (1,) * size, wordy),), 1)
        late = tuple([("b",) + row[0] if con[0] == starts[0] else row[0] for con, row in zip(cons, rows)])
        form = ((size, starts, cons), form[1][:-1], ("pieces", (1,) * size, tuple([(piece,) for piece in late])))
        self.same(word_counts(form, 0), (0,))
        self.refused(TooMuch, ("count",), word_counts, form, 1)


if __name__ == "__main__":
    unittest.main()
