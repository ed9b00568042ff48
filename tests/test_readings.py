"""Readings, papers that there is none, and how texts go on [79] to [82], G9."""

import itertools
import random
import unittest

from everytongue.beginnings import completion, next_words, sure_beginning
from everytongue.erasing import erased
from everytongue.errors import TooMuch
from everytongue.formchecker import lets_form
from everytongue.items import items_made, items_of
from everytongue.machines import text_machine
from everytongue.making import form_of
from everytongue.noreading import lets_no_reading, no_reading
from everytongue.readings import count_readings, first_readings, readings
from everytongue.saying import texts_said
from everytongue.speaking import says
from everytongue.treecounts import count_trees
from everytongue.treelists import small_trees
from everytongue.trimming import trimmed
from asking import Asking
from samples import (BAD_BOOKS, DEAD, EMPTY, MEAN, NEST, NO_CONS, NO_STARTS, PAIRS, SPLIT, WALK, nines_book, power_book,
                     random_book, random_pieces, silent_tongue, start_trees)
from waysamples import BAD_TEXTS, BAD_TONGUES, HALT, NET, slow_says, tongue_samples

BINARY = ("pieces", (1,), ((("x",),), (((0, 0), (1, 0)),)))
# Each reading stands in endlessly many greater ones; the ring is silent.
ROUND = (1, (0,), ((0, ()), (0, (0,))))
ROUND_SAID = ("pieces", (1,), ((("a",),), (((0, 0),),)))


def heard(book, tongue, most):
    """For each text the start trees, listed up to a size, of which the tongue says it."""
    found = {}
    for tree in start_trees(book, most):
        text = slow_says(book, tongue, tree)
        if text is not None:
            found.setdefault(text, []).append(tree)
    return found


def samples(seed, many):
    """Books with tongues of all ways, and of rings and no words."""
    for book, tongues in tongue_samples(seed, many):
        if len(start_trees(book, 5)) < 60:
            for tongue in tongues:
                yield book, tongue
    for book in (EMPTY, NO_STARTS, NO_CONS, DEAD, PAIRS, NEST, ROUND):
        yield book, random_pieces(random.Random(seed), book)
    yield PAIRS, BINARY
    yield ROUND, ROUND_SAID
    for tongue in (SPLIT, WALK, MEAN, NET, HALT, ("walker", 1, ())):
        yield NEST, tongue


def texts_to_read(rng, found):
    """Some texts that are said, and some that may not be."""
    texts = sorted(text for text in found if len(text) < 7)
    texts = rng.sample(texts, min(3, len(texts)))
    return texts + [(), ("a",), ("q",), tuple([rng.choice("abc") for _ in range(rng.randint(1, 4))])]


class Readings(Asking):

    def test_listed_trees(self):
        rng = random.Random(140)
        read = 0
        for book, tongue in samples(140, 40):
            found = heard(book, tongue, 6)
            for text in texts_to_read(rng, found):
                made, erase, said = form = readings(book, tongue, text)
                lets_form(book, form)
                self.same(trimmed(made), made)
                back = sorted(erased(form, tree) for tree in start_trees(made, 6))
                self.same(back, sorted(found.get(text, [])))
                for tree in start_trees(made, 6)[:10]:
                    self.same(texts_said(made, said, tree), (text,))
                read += len(back)
                many = count_readings(book, tongue, text)
                self.same(many, count_trees(made))
                self.assertTrue(many is None or many >= len(back))
                self.least(book, tongue, text, many, found.get(text, []))
        self.assertTrue(read > 150, read)

    def least(self, book, tongue, text, many, listed):
        """The first readings, for some numbers of them."""
        for most in (0, 1, 2, 5, 9):
            told = first_readings(book, tongue, text, most)
            self.assertIs(type(told), tuple)
            self.assertEqual(len(told), most if many is None else min(most, many))
            self.assertEqual(len(set(told)), len(told))
            sizes = [len(tree) for tree in told]
            self.assertEqual(sizes, sorted(sizes))
            for tree in told:
                self.same(says(book, tongue, tree), text)
            due = sorted(len(tree) for tree in listed)
            self.assertEqual([size for size in sizes if size <= 6], due[:most][:len([size for size in sizes if size <= 6])])
            if len(due) >= most:
                self.assertEqual(sizes, due[:most])

    def test_many(self):
        # All binary trees of so many leaves.
        self.same(count_readings(PAIRS, BINARY, ("x",) * 14), 742900)
        self.same(count_readings(PAIRS, BINARY, ()), 0)
        told = first_readings(PAIRS, BINARY, ("x",) * 8, 400)
        self.assertEqual(len(set(told)), 400)
        self.same(first_readings(PAIRS, BINARY, ("x",) * 3, 9), first_readings(PAIRS, BINARY, ("x",) * 3, 2))
        self.assertEqual(sorted(first_readings(PAIRS, BINARY, ("x",) * 3, 9)), [(1, 0, 1, 0, 0), (1, 1, 0, 0, 0)])
        self.assertTrue(count_readings(PAIRS, BINARY, ("x",) * 40) > 10 ** 20)

    def test_endless(self):
        self.same(count_readings(ROUND, ROUND_SAID, ("a",)), None)
        self.same(first_readings(ROUND, ROUND_SAID, ("a",), 4), ((0,), (1, 0), (1, 1, 0), (1, 1, 1, 0)))
        self.same(count_readings(ROUND, ROUND_SAID, ()), 0)
        # Rings in two kids, so that many have one size.
        book = (2, (0,), ((0, (1, 1)), (1, ()), (1, (1,))))
        pieces = ("pieces", (1, 1), ((((0, 0), (1, 0)),), (("a",),), (((0, 0),),)))
        told = first_readings(book, pieces, ("a", "a"), 400)
        self.assertEqual(len(set(told)), 400)
        self.assertEqual([len(tree) for tree in told], sorted(3 + n for n in range(40) for _ in range(n + 1))[:400])

    def test_too_much(self):
        # Four kids at each of seven levels, ten words for none of them: 10 ** (4 ** 6) trees.
        chain = tuple([(level, (level + 1,) * 4) for level in range(6)])
        book = (7, (0,), chain + tuple([(6, ())] * 10))
        rows = tuple([(tuple([(kid, 0) for kid in range(4)]),)] * 6 + [((),)] * 10)
        pieces = ("pieces", (1,) * 7, rows)
        self.refused(TooMuch, ("count",), count_readings, book, pieces, ())
        self.refused(TooMuch, ("tree",), first_readings, book, pieces, (), 1)
        self.same(first_readings(book, pieces, (), 0), ())
        self.same(first_readings(book, pieces, ("a",), 3), ())
        # 10 ** 4000 and one fewer.
        book = power_book(4000)
        self.refused(TooMuch, ("count",), count_readings, book, silent_tongue(book), ())
        book = nines_book(4000)
        self.same(count_readings(book, silent_tongue(book), ()) + 1, 10 ** 4000)
        self.same(count_readings(power_book(80), silent_tongue(power_book(80)), ()), 10 ** 80)

    def test_sizes_at_the_bound(self):
        # Least readings of 1000 and of 1001 nodes.
        for many in (997, 998):
            chain = tuple([(k, (k + 1,)) for k in range(many)])
            book = (many + 1, (0,), chain + ((many, (many,) * 2), (many, ())))
            rows = tuple([(((0, 0),),)] * many + [(((0, 0), (1, 0)),), (("a",),)])
            pieces = ("pieces", (1,) * (many + 1), rows)
            if many == 997:
                self.assertEqual([len(tree) for tree in first_readings(book, pieces, ("a", "a"), 5)], [1000])
            else:
                self.refused(TooMuch, ("tree",), first_readings, book, pieces, ("a", "a"), 1)
                self.same(first_readings(book, pieces, ("a", "a"), 0), ())
        # The first one has few nodes, the second one too many.
        chain = tuple([(k, (k + 1,)) for k in range(1, 1000)])
        book = (1001, (0,), ((0, ()), (0, (1,))) + chain + ((1000, ()),))
        pieces = ("pieces", (1,) * 1001, (((),), (((0, 0),),)) + ((((0, 0),),),) * 999 + (((),),))
        self.same(first_readings(book, pieces, (), 1), ((0,),))
        self.refused(TooMuch, ("tree",), first_readings, book, pieces, (), 2)
        self.same(count_readings(book, pieces, ()), 2)

    def test_forty_words(self):
        text = ("a",) * 20 + ("b",) * 20
        for tongue in (SPLIT, WALK, MEAN, NET):
            self.same(count_readings(NEST, tongue, text), 1)
            self.same(first_readings(NEST, tongue, text, 3), ((0,) + (1,) * 20 + (2,),))
            self.same(no_reading(NEST, tongue, text), None)
            self.same(sure_beginning(NEST, tongue, text), 40)
            self.same(sure_beginning(NEST, tongue, text[1:] + ("b",)), 38)
            self.same(next_words(NEST, tongue, text[1:]), ((), False))
            self.same(next_words(NEST, tongue, text[:-1]), (("b",), False))
            self.same(completion(NEST, tongue, text[:30]), ("b",) * 10)

    def test_parameters(self):
        good = {"book": NEST, "tongue": SPLIT, "words": ("a", "b")}
        bad = {"book": BAD_BOOKS, "tongue": BAD_TONGUES, "words": BAD_TEXTS}
        for function in (readings, count_readings, no_reading, sure_beginning, next_words, completion):
            self.asks(function, good, bad)
        self.asks(first_readings, dict(good, most=3), dict(bad, most=(-1, True, None, "1", (1,))))
        self.asks(lets_no_reading, dict(good, words=("a",), thing=no_reading(NEST, SPLIT, ("a",))), bad, ("thing",))


class SmallTrees(Asking):

    def test_listed_trees(self):
        """All start trees up to a size, as far as they are few."""
        rng = random.Random(144)
        books = [EMPTY, NO_STARTS, NO_CONS, DEAD, PAIRS, NEST, ROUND] + [random_book(rng) for _ in range(60)]
        for book in books:
            trees = start_trees(book, 7)
            sizes = [len(tree) for tree in trees]
            for most in (0, 1, 4, 20):
                for nodes in (1, 3, 6):
                    told = small_trees(book, most, nodes)
                    self.assertEqual(len(set(told)), len(told))
                    self.assertEqual([len(tree) for tree in told], sorted([len(tree) for tree in told]))
                    due = [tree for tree in trees if len(tree) <= nodes and sizes.index(len(tree)) + sizes.count(len(tree)) <= most]
                    self.assertEqual(sorted(told), sorted(due))


class NoReading(Asking):

    def slow_fault(self, form, words, thing):
        """The first entry of the list of lets_no_reading that applies, word for word; how many items otherwise."""
        made, _, said = form
        many = len(words)
        if type(thing) is not tuple or len(thing) != made[0]:
            return ("shape", -1)
        for s, items in enumerate(thing):
            if type(items) is not tuple:
                return ("items", s)
            for item in items:
                if type(item) is not tuple or len(item) != said[1][s]:
                    return ("items", s)
                for span in item:
                    if type(span) is not tuple or len(span) != 2 or [p for p in span if type(p) is not int]:
                        return ("items", s)
                    if not all(0 <= p <= many for p in span):
                        return ("items", s)
            if list(items) != sorted(set(items)):
                return ("items", s)
        machine = text_machine(words)
        for k, (result, kids) in enumerate(made[2]):
            for row in itertools.product(*[thing[kid] for kid in kids]):
                if not set(items_made(form, machine, k, row)) <= set(thing[result]):
                    return ("open", k)
        for s in made[1]:
            if ((0, many),) in thing[s]:
                return ("start", s)
        return sum(len(items) for items in thing)

    def check(self, book, tongue, words, thing):
        """The checker tells what the slow one tells."""
        due = self.slow_fault(form_of(book, tongue), words, thing)
        if isinstance(due, int):
            self.same(lets_no_reading(book, tongue, words, thing), due)
        else:
            self.invalid(due[0], due[1], lets_no_reading, book, tongue, words, thing)
        return due if isinstance(due, int) else due[0]

    def test_papers(self):
        rng = random.Random(141)
        papers = 0
        for book, tongue in samples(141, 40):
            found = heard(book, tongue, 6)
            form = form_of(book, tongue)
            for text in texts_to_read(rng, found):
                paper = no_reading(book, tongue, text)
                self.assertEqual(paper is None, count_readings(book, tongue, text) != 0)
                if paper is not None:
                    papers += 1
                    self.same(paper, items_of(form, text_machine(text)))
                    self.same(lets_no_reading(book, tongue, text, paper), sum(len(row) for row in paper))
                elif text in found:
                    self.refused_items(book, tongue, text, form)
        self.assertTrue(papers > 150, papers)

    def refused_items(self, book, tongue, text, form):
        """What comes at the sorts of a text with a reading is no paper."""
        told = items_of(form, text_machine(text))
        start = [s for s in form[0][1] if ((0, len(text)),) in told[s]][0]
        self.invalid("start", start, lets_no_reading, book, tongue, text, told)

    def test_spoilt(self):
        rng = random.Random(142)
        words = {}
        for book, tongue in samples(142, 25):
            form = form_of(book, tongue)
            if max(form[2][1], default=1) > 3 or max([len(kids) for _, kids in form[0][2]], default=0) > 2:
                continue
            for text in (("a",), ("b", "a"), ()):
                paper = items_of(form, text_machine(text))
                if sum(len(row) for row in paper) > 60:
                    continue
                for _ in range(6):
                    word = self.check(book, tongue, text, self.spoilt(rng, paper, form, len(text)))
                    words[word if isinstance(word, str) else "fine"] = True
        self.assertEqual(set(words), {"items", "open", "start", "fine"})

    def spoilt(self, rng, paper, form, many):
        """The paper with an item more or fewer, or with another one."""
        if not paper:
            return paper
        s = rng.randrange(len(paper))
        items = list(paper[s])
        pick = rng.random()
        item = tuple([(rng.randint(0, many), rng.randint(0, many)) for _ in range(form[2][1][s])])
        if pick < 0.35 and items:
            items.pop(rng.randrange(len(items)))
        elif pick < 0.8:
            items = sorted(set(items) | {item})
        elif pick < 0.9:
            items.append(item)
        else:
            items.insert(0, rng.choice((item + ((0, 0),), item[1:], ((0, many + 1),), ((0, -1),), 0, ((0, True),) * len(item))))
        return paper[:s] + (tuple(items),) + paper[s + 1:]

    def test_words_and_places(self):
        paper = no_reading(NEST, SPLIT, ("a",))
        spoil = lambda s, items: paper[:s] + (items,) + paper[s + 1:]
        for thing in (None, (), list(paper), paper[:1], paper + ((),), "ab", 2):
            self.invalid("shape", -1, lets_no_reading, NEST, SPLIT, ("a",), thing)
        for s in (0, 1):
            for items in (None, list(paper[s]), paper[s][::-1], paper[s] + paper[s][-1:], paper[s] + (((0, 2),) * (s + 1),),
                          paper[s] + (((1, -1),) * (s + 1),), paper[s] + (((1, True),) * (s + 1),), paper[s] + ([(1, 1)] * (s + 1),),
                          paper[s] + (((1, 1),) * (2 - s),), paper[s] + (None,), paper[s] + (((1,),) * (s + 1),),
                          paper[s] + (([1, 1],) * (s + 1),)):
                self.invalid("items", s, lets_no_reading, NEST, SPLIT, ("a",), spoil(s, items))
        self.invalid("items", 0, lets_no_reading, NEST, SPLIT, ("a",), (None, None))
        self.invalid("open", 2, lets_no_reading, NEST, SPLIT, ("a",), (paper[0], ()))
        self.invalid("open", 0, lets_no_reading, NEST, SPLIT, ("a",), ((), paper[1]))
        self.invalid("open", 0, lets_no_reading, NEST, SPLIT, ("a",), (paper[0][1:], paper[1]))
        # Two at once: the first one in the list is told.
        self.invalid("open", 2, lets_no_reading, NEST, SPLIT, ("a",), ((((0, 1),),), ()))
        more = tuple(sorted(paper[0] + (((0, 1),),)))
        self.invalid("start", 0, lets_no_reading, NEST, SPLIT, ("a",), (more, paper[1]))
        # More may be listed than comes, if it is closed; also where no text leads.
        wide = tuple(sorted(paper[0] + (((1, 0),),)))
        self.same(lets_no_reading(NEST, SPLIT, ("a",), (wide, paper[1])), 7)
        # Without sorts () is a paper, and nothing else.
        self.same(lets_no_reading(EMPTY, ("pieces", (), ()), ("a",), ()), 0)
        self.invalid("shape", -1, lets_no_reading, EMPTY, ("pieces", (), ()), ("a",), ((),))
        self.same(no_reading(NO_STARTS, ("pieces", (1, 1), ((((0, 0),),), (("a",),))), ("a",)), ())
        self.same(no_reading(NEST, ("walker", 1, ()), ()), ())

    def test_long_lists(self):
        """Thousands of listed items, for constructors of two and of four kids."""
        text = ("x",) * 40
        book = (1, (0,), ((0, ()), (0, (0, 0)), (0, (0, 0, 0, 0))))
        pieces = ("pieces", (1,), ((("x",),), (((0, 0), (1, 0)),), (((0, 0), "y", (1, 0), (3, 0), (2, 0)),)))
        self.same(no_reading(book, pieces, text), None)
        paper = no_reading(book, pieces, text[:-1] + ("z",))
        self.assertEqual(len(paper[0]), 39 * 40 // 2)
        self.same(lets_no_reading(book, pieces, text[:-1] + ("z",), paper), 780)
        self.invalid("open", 1, lets_no_reading, book, pieces, text[:-1] + ("z",), (paper[0][:100] + paper[0][101:],))


class Beginnings(Asking):

    def test_listed_sentences(self):
        rng = random.Random(143)
        some = 0
        for book, tongue in samples(143, 60):
            found = heard(book, tongue, 6)
            sentences = sorted(found)
            for text in texts_to_read(rng, found):
                sure = sure_beginning(book, tongue, text)
                further, whole = told = next_words(book, tongue, text)
                ending = completion(book, tongue, text)
                self.same(told, (tuple(sorted(set(further))), whole))
                self.assertIs(type(whole), bool)
                # What is listed is told.
                begun = [sentence for sentence in sentences if sentence[:len(text)] == text]
                self.assertTrue({sentence[len(text)] for sentence in begun if len(sentence) > len(text)} <= set(further))
                if text in found:
                    self.assertTrue(whole)
                if sentences:
                    longest = max([k for k in range(len(text) + 1) for s in sentences if s[:k] == text[:k]])
                    self.assertTrue(sure >= longest)
                if begun:
                    some += 1
                    self.assertTrue(len(ending) <= min(len(sentence) for sentence in begun) - len(text))
                # What is told is so.
                self.assertEqual(whole, count_readings(book, tongue, text) != 0)
                self.assertEqual(ending is not None, sure == len(text))
                self.assertEqual(ending is not None, whole or len(further) > 0)
                self.assertEqual(ending == (), whole)
                if ending:
                    self.assertIn(ending[0], further)
                    self.assertTrue(count_readings(book, tongue, text + ending) != 0)
                for word in further:
                    self.assertEqual(sure_beginning(book, tongue, text + (word,)), len(text) + 1)
                self.assertEqual(sure is None, count_trees(form_of(book, tongue)[0]) == 0)
                if sure is not None:
                    self.assertTrue(completion(book, tongue, text[:sure]) is not None)
                    self.assertTrue(sure == len(text) or completion(book, tongue, text[:sure + 1]) is None)
                if not whole and further:
                    self.assertEqual(1 + min([len(completion(book, tongue, text + (word,))) for word in further]), len(ending))
        self.assertTrue(some > 100, some)

    def test_edges(self):
        none = ("walker", 1, ())
        for book, tongue in ((EMPTY, ("pieces", (), ())), (NEST, none), (NO_CONS, ("pieces", (1, 2), ())),
                             (NO_STARTS, ("pieces", (1, 1), ((((0, 0),),), (("a",),))))):
            for text in ((), ("a",)):
                self.same(sure_beginning(book, tongue, text), None)
                self.same(next_words(book, tongue, text), ((), False))
                self.same(completion(book, tongue, text), None)
                self.same(count_readings(book, tongue, text), 0)
                self.same(first_readings(book, tongue, text, 3), ())
                self.same(readings(book, tongue, text)[0], (0, (), ()))
        # No text but () is said; a word that stands in no row; one that stands in none that is used.
        quiet = (2, (0,), ((0, ()), (1, ())))
        said = ("pieces", (1, 1), (((),), (("a",),)))
        self.same(next_words(quiet, said, ()), ((), True))
        self.same(sure_beginning(quiet, said, ("a",)), 0)
        self.same(completion(quiet, said, ()), ())
        self.same(completion(NEST, SPLIT, ("a", "a", "b")), ("b",))
        self.same(completion(NEST, SPLIT, ()), ())
        self.same(completion(NEST, SPLIT, ("b",)), None)
        self.same(sure_beginning(NEST, SPLIT, ("a", "b", "a", "b")), 2)
        self.same(sure_beginning(NEST, SPLIT, ("q",)), 0)

    def test_next_words_of_pieces_far_apart(self):
        # The next word stands in the last piece of a tree whose first piece comes behind it.
        book = (2, (0,), ((0, (1, 1)), (1, ()), (1, ())))
        rows = ((((0, 1), (1, 0), (0, 0), (1, 1)),), (("a",), ("b",)), (("c",), ("d",)))
        pieces = ("pieces", (1, 2), rows)
        self.same(next_words(book, pieces, ("b",)), (("a", "c"), False))
        self.same(next_words(book, pieces, ("b", "c")), (("a",), False))
        self.same(next_words(book, pieces, ("b", "c", "a")), (("d",), False))
        self.same(next_words(book, pieces, ("b", "c", "a", "d")), ((), True))

    def test_great_trees_with_short_texts(self):
        """What is left to say is short, while the least tree that says it is too great to be told."""
        chain = tuple([(level, (level + 1,) * 4) for level in range(1, 9)])
        book = (10, (0,), ((0, (1,)),) + chain + ((9, ()),))
        rows = ((("a", (0, 0), "b"),),) + ((tuple([(kid, 0) for kid in range(4)]),),) * 8 + (((),),)
        self.same(completion(book, ("pieces", (1,) * 10, rows), ("a",)), ("b",))


if __name__ == "__main__":
    unittest.main()
