"""Marked rows and kept texts [108], [109], [112], G12."""

import itertools
import random
import unittest

from everytongue.beginnings import next_words, sure_beginning
from everytongue.errors import NothingToUndo, TooMuch
from everytongue.items import items_of
from everytongue.kept import Kept
from everytongue.machines import text_machine
from everytongue.making import form_of
from everytongue.marked import marked_items
from everytongue.noreading import no_reading
from everytongue.readings import count_readings, first_readings
from asking import Asking
from samples import BAD_BOOKS, EMPTY, MEAN, NEST, NO_CONS, NO_STARTS, PAIRS, SPLIT, WALK, slow_texts, start_trees, trees_by_size
from waysamples import BAD_TEXTS, BAD_TONGUES, NET, slow_says, tongue_samples

TEXT = ("a", "a", "b", "b")
BAD_NUMBERS = (-1, True, None, "1", (1,))
ROUND = (1, (0,), ((0, ()), (0, (0,))))
ROUND_SAID = ("pieces", (1,), ((("a",),), (((0, 0),),)))


def said_samples(seed, many):
    """Books with a tongue each, and some texts that it says."""
    rng = random.Random(seed)
    for book, tongues in tongue_samples(seed, many):
        tongue = rng.choice(tongues)
        texts = {slow_says(book, tongue, tree) for tree in start_trees(book, 5)[:20]} - {None}
        if len(texts) > 1:
            yield book, tongue, sorted(texts)


def spans_of(words, at, out, text):
    """All marked spans along which the text leads."""
    ahead, behind = words[:at], words[at + out:]
    found = []
    for first in range(len(ahead) + 1):
        if ahead[first:first + len(text)] == text and first + len(text) <= len(ahead):
            found.append((0, first, first + len(text)))
    for first in range(len(behind) + 1):
        if behind[first:first + len(text)] == text and first + len(text) <= len(behind):
            found.append((1, len(behind) - first, len(behind) - first - len(text)))
    return found


class Marked(Asking):

    def test_listed_trees(self):
        rng = random.Random(210)
        rows, whole = 0, 0
        for book, tongue, texts in said_samples(210, 120):
            made, _, said = form_of(book, tongue)
            listed = trees_by_size(made, 5)
            if sum([len(row) for sort in listed for row in sort]) > 150 or max(said[1], default=1) > 3:
                continue
            for _ in range(4):
                words = rng.choice(texts)[:6] + tuple([rng.choice("ab") for _ in range(rng.randint(0, 2))])
                at = rng.randint(0, len(words))
                out = rng.randint(0, len(words) - at)
                told = marked_items(book, tongue, words, at, out)
                self.assertEqual(len(told), made[0])
                for sort in range(made[0]):
                    due = set()
                    for tree in [tree for row in listed[sort] for tree in row]:
                        due |= set(itertools.product(*[spans_of(words, at, out, text) for text in slow_texts(made, said, tree)]))
                    self.assertTrue(due <= set(told[sort]))
                    rows += len(due)
                    self.same(told[sort], tuple(sorted(set(told[sort]))))
                self.around(book, tongue, words, at, out, told)
                # Where nothing is taken out, the rows on one side are items of the text alone.
                if out == 0 and at == len(words):
                    items = items_of(form_of(book, tongue), text_machine(words))
                    for sort, row in enumerate(told):
                        ahead = [tuple([span[1:] for span in item]) for item in row if all(span[0] == 0 for span in item)]
                        self.same(tuple(ahead), items[sort])
                        whole += len(ahead)
        self.assertTrue(rows > 1000 and whole > 100, (rows, whole))

    def around(self, book, tongue, words, at, out, told):
        """Whatever stands between the two parts, the rows are the same."""
        for put in ((), ("a",), ("q", "b", "a")):
            other = words[:at] + put + words[at + out:]
            self.same(marked_items(book, tongue, other, at, len(put)), told)

    def test_edges(self):
        self.same(marked_items(EMPTY, ("pieces", (), ()), ("a",), 0, 1), ())
        self.same(marked_items(NEST, ("walker", 1, ()), (), 0, 0), ())
        self.same(marked_items(NO_STARTS, ("pieces", (1, 1), ((((0, 0),),), (("a",),))), ("a",), 1, 0), ())
        self.same(marked_items(NO_CONS, ("pieces", (1, 2), ()), ("a",), 1, 0), ())
        leaf = (1, (0,), ((0, ()),))
        one = ("pieces", (1,), ((("a",),),))
        self.same(marked_items(leaf, one, ("a", "b", "a"), 1, 1), ((((0, 0, 1),), ((1, 1, 0),)),))
        self.same(marked_items(leaf, one, ("a", "b", "a"), 0, 0), ((((1, 1, 0),), ((1, 3, 2),)),))
        self.same(marked_items(leaf, one, ("a", "b", "a"), 3, 0), ((((0, 0, 1),), ((0, 2, 3),)),))
        self.same(marked_items(leaf, one, ("a", "b", "a"), 0, 3), ((),))
        quiet = ("pieces", (1,), (((),),))
        self.same(marked_items(leaf, quiet, ("a", "b"), 1, 1), ((((0, 0, 0),), ((0, 1, 1),), ((1, 0, 0),)),))
        # No word leads from ahead of the edit to behind it, though nothing stands between.
        two = ("pieces", (1,), ((("a", "b"),),))
        self.same(marked_items(leaf, two, ("a", "b"), 1, 0), ((),))
        self.same(marked_items(leaf, two, ("a", "b"), 2, 0), ((((0, 0, 2),),),))
        # Pieces on both sides.
        self.assertIn(((0, 0, 1), (1, 1, 0)), marked_items(NEST, SPLIT, ("a", "x", "b"), 1, 1)[1])

    def test_parameters(self):
        self.asks(marked_items, {"book": NEST, "tongue": SPLIT, "words": TEXT, "at": 1, "out": 3},
                  {"book": BAD_BOOKS, "tongue": BAD_TONGUES, "words": BAD_TEXTS, "at": BAD_NUMBERS + (5,), "out": BAD_NUMBERS + (4,)})
        self.not_usable("out", marked_items, NEST, SPLIT, TEXT, 4, 1)
        self.same(marked_items(NEST, SPLIT, TEXT, 4, 0), marked_items(NEST, SPLIT, TEXT + ("q",), 4, 1))


class KeptTexts(Asking):

    def compare(self, kept, book, tongue, words):
        """What a Kept tells is what the functions tell."""
        self.same(kept.text(), words)
        self.same(kept.how_many(), count_readings(book, tongue, words))
        self.same(kept.first(3), first_readings(book, tongue, words, 3))
        self.same(kept.next_words(), next_words(book, tongue, words))
        self.same(kept.sure(), sure_beginning(book, tongue, words))
        self.same(kept.paper(), no_reading(book, tongue, words))

    def test_edits_and_undos(self):
        rng = random.Random(211)
        read = 0
        for book, tongue, texts in said_samples(211, 40):
            words = rng.choice(texts)[:8]
            kept = Kept(book, tongue, words)
            before = []
            self.compare(kept, book, tongue, words)
            for _ in range(8):
                if rng.random() < 0.35:
                    if before:
                        self.same(kept.undo(), None)
                        words = before.pop()
                    else:
                        self.refused(NothingToUndo, (0,), kept.undo)
                else:
                    at = rng.randint(0, len(words))
                    out = rng.randint(0, len(words) - at)
                    put = rng.choice(texts)[:rng.randint(0, 2)]
                    before.append(words)
                    words = words[:at] + put + words[at + out:]
                    self.same(kept.edit(at, out, put), None)
                self.compare(kept, book, tongue, words)
                read += kept.how_many() != 0
                self.assertTrue(kept == Kept(book, tongue, words))
        self.assertTrue(read > 15, read)

    def test_edges(self):
        kept = Kept(NEST, SPLIT, ())
        self.same(kept.text(), ())
        # An edit that changes nothing is an edit.
        kept.edit(0, 0, ())
        self.same(kept.undo(), None)
        self.refused(NothingToUndo, (0,), kept.undo)
        kept.edit(at=0, out=0, put=("a", "b"))
        kept.edit(2, 0, ("b",))
        kept.edit(1, 0, ("a",))
        self.same(kept.text(), TEXT)
        self.same(kept.how_many(), 1)
        self.same(kept.first(most=2), ((0, 1, 1, 2),))
        kept.edit(0, 4, ())
        self.same((kept.text(), kept.paper(), kept.next_words(), kept.sure()), ((), None, (("a",), True), 0))
        for text in (TEXT, ("a", "b", "b"), ("a", "b"), ()):
            kept.undo()
            self.same(kept.text(), text)
        self.refused(NothingToUndo, (0,), kept.undo)
        self.same(Kept(ROUND, ROUND_SAID, ("a",)).how_many(), None)
        self.same(Kept(NEST, ("walker", 1, ()), ()).sure(), None)

    def test_refused_edits_change_nothing(self):
        kept = Kept(NEST, SPLIT, TEXT)
        kept.edit(4, 0, ("b",))
        for name, bad, good in (("at", BAD_NUMBERS + (6,), (1, 1, ())), ("out", BAD_NUMBERS + (5,), (1, 4, ())), ("put", BAD_TEXTS, (1, 1, ()))):
            place = ("at", "out", "put").index(name)
            for value in bad:
                args = good[:place] + (value,) + good[place + 1:]
                self.not_usable(name, kept.edit, *args)
                self.not_usable(name, kept.edit, **dict(zip(("at", "out", "put"), args)))
                self.same(kept.text(), TEXT + ("b",))
        self.not_usable("at", kept.edit, 9, -1, None)
        self.not_usable("out", kept.edit, 5, 1, None)
        for most in BAD_NUMBERS:
            self.not_usable("most", kept.first, most)
            self.not_usable("most", kept.first, most=most)
        kept.undo()
        self.same(kept.text(), TEXT)
        self.refused(NothingToUndo, (0,), kept.undo)

    def test_too_much(self):
        chain = tuple([(k, (k + 1,)) for k in range(1001)])
        book = (1002, (0,), chain + ((1001, ()),))
        kept = Kept(book, ("pieces", (1,) * 1002, ((((0, 0),),),) * 1001 + (((),),)), ())
        self.refused(TooMuch, ("tree",), kept.first, 1)
        self.same(kept.first(0), ())
        self.same(kept.how_many(), 1)

    def test_equal(self):
        kept = Kept(NEST, SPLIT, TEXT)
        self.assertTrue(kept == Kept(NEST, SPLIT, TEXT))
        self.assertFalse(kept != Kept(NEST, SPLIT, TEXT))
        for other in (Kept(NEST, SPLIT, ()), Kept(NEST, WALK, TEXT), Kept(PAIRS, ("pieces", (1,), ((("a",),), (((0, 0), (1, 0)),))), TEXT),
                      TEXT, (NEST, SPLIT, TEXT), None, Kept, 0, "kept"):
            self.assertFalse(kept == other)
            self.assertTrue(kept != other)
        # The text as it stands counts, not how it came there.
        other = Kept(NEST, SPLIT, ("a", "b"))
        self.assertFalse(kept == other)
        other.edit(1, 0, ("a", "b"))
        self.assertTrue(kept == other)
        other.undo()
        self.assertFalse(kept == other)

    def test_parameters(self):
        good = {"book": NEST, "tongue": SPLIT, "words": TEXT}
        bad = {"book": BAD_BOOKS, "tongue": BAD_TONGUES, "words": BAD_TEXTS}
        names = list(good)
        self.assertTrue(Kept(**good) == Kept(*good.values()))
        for k, name in enumerate(names):
            for value in bad[name]:
                args = dict(good, **{name: value})
                self.not_usable(name, Kept, *args.values())
                self.not_usable(name, Kept, **args)
                for other in names[k + 1:]:
                    self.not_usable(name, Kept, **dict(args, **{other: bad[other][0]}))

    def test_forty_words(self):
        words = ("a",) * 20 + ("b",) * 20
        for tongue in (SPLIT, WALK, MEAN, NET):
            kept = Kept(NEST, tongue, words)
            self.same(kept.how_many(), 1)
            kept.edit(19, 2, ())
            self.same((kept.how_many(), kept.sure()), (1, 38))
            kept.edit(0, 1, ("b",))
            self.same((kept.how_many(), kept.sure(), kept.next_words()), (0, 0, ((), False)))
            kept.undo()
            kept.undo()
            self.same(kept.text(), words)


if __name__ == "__main__":
    unittest.main()
