"""Tongues in pieces: checked, said, silent, struck, twisted [23] to [27], [32], G2."""

import random
import unittest

from everytongue.piecechecker import lets_pieces
from everytongue.saying import own_words, texts_said, words_said
from everytongue.silents import silent_pieces, struck
from everytongue.trimming import trimmed
from everytongue.twists import is_twist, twisted, twisted_text
from asking import Asking
from samples import (BAD_BOOKS, BAD_PIECES, BAD_TREES, DEAD, EMPTY, FOUR, NEST, NO_CONS, NO_STARTS, ODD, PAIRS, SPLIT,
                     random_book, random_pieces, random_tongues, slow_texts, trees_by_size)



def with_row(con, row, widths=(1, 2)):
    rows = list(SPLIT[2])
    rows[con] = row
    return ("pieces", widths, tuple(rows))


class LetsPieces(Asking):

    def test_example(self):
        self.invalid("once", 1, lets_pieces, NEST,
                     ("pieces", (1, 2), (SPLIT[2][0], (("a", (0, 0)), ("b",)), ((), ()))))

    def test_tongues(self):
        self.assertEqual(lets_pieces(NEST, SPLIT), 2)
        self.assertEqual(lets_pieces(thing=SPLIT, book=NEST), 2)
        self.same(lets_pieces(EMPTY, ("pieces", (), ())), 0)
        self.assertEqual(lets_pieces(NO_CONS, ("pieces", (1, 10 ** 59), ())), 10 ** 59)
        self.assertEqual(lets_pieces(NO_STARTS, ("pieces", (3, 1), (((), ((0, 0),), ()), (("x",),)))), 3)
        four = ("pieces", (1, 1), ((((1, 0), (3, 0), "x", (0, 0), (2, 0)),), ((),), ((),), (((1, 0), (0, 0)),)))
        self.assertEqual(lets_pieces(FOUR, four), 1)
        for book, pieces in random_tongues(23, 200):
            self.assertEqual(lets_pieces(book, pieces), max(pieces[1]))
        long = ("pieces", (1,), ((("a",) * 4000,), (((0, 0), (1, 0)),)))
        self.assertEqual(lets_pieces(PAIRS, long), 1)

    def test_shape(self):
        for thing in ODD + (("pieces", (1, 2)), SPLIT + ((),), list(SPLIT), ("piece",) + SPLIT[1:],
                            (("pieces",),) + SPLIT[1:], (["pieces"],) + SPLIT[1:], (None, None, None)):
            self.invalid("shape", -1, lets_pieces, NEST, thing)

    def test_widths(self):
        for widths in ((1,), (1, 2, 1), (2, 2), (0, 2), (1, 0), (1, -1), (True, 2), (1, True), (1, "2"), (1, None),
                       [1, 2], None, 2, "12", ()):
            self.invalid("widths", -1, lets_pieces, NEST, ("pieces", widths, SPLIT[2]))
            self.invalid("widths", -1, lets_pieces, NEST, ("pieces", widths, None))
        self.invalid("widths", -1, lets_pieces, FOUR, ("pieces", (1, 2), ()))
        self.invalid("widths", -1, lets_pieces, EMPTY, ("pieces", (1,), ()))

    def test_rows(self):
        for rows in (None, [], (), SPLIT[2][:2], SPLIT[2] + (((), ()),), list(SPLIT[2]), "abc", 3, (None, None)):
            self.invalid("rows", -1, lets_pieces, NEST, ("pieces", (1, 2), rows))

    def test_row(self):
        for row in ((), ((),), ((), (), ()), [(), ()], ((), []), (None, ()), ("a", "b"), None, "ab", ((), 1), 2):
            self.invalid("row", 2, lets_pieces, NEST, with_row(2, row))
        self.invalid("row", 0, lets_pieces, NEST, with_row(0, (((0, 0),), ((0, 1),))))
        self.invalid("row", 1, lets_pieces, NEST, with_row(1, (("%",), 5)))

    def test_item(self):
        for item in ("", "a b", "x" * 17, "it's", None, 1, True, (), (0,), (0, 0, 0), (0, 2), (1, 0), (-1, 0), (0, -1),
                     (False, 0), (0, True), (0, "1"), [0, 0], ("a", 0), ((0, 0),), 10 ** 59, (0, 10 ** 59)):
            self.invalid("item", 1, lets_pieces, NEST, with_row(1, (("a", (0, 0), item), ((0, 1), "b"))))
            self.invalid("item", 1, lets_pieces, NEST, with_row(1, (("a",), (item, (0, 0), (0, 0)))))
        self.invalid("item", 2, lets_pieces, NEST, with_row(2, ((), ((0, 0),))))

    def test_once(self):
        for row in (((), ()), (((0, 0),), ()), ((), ((0, 1),)), (((0, 0), (0, 1)), ((0, 1),)),
                    (((0, 0), (0, 0)), ()), (("a", "b"), ("c",)), (((0, 0), (0, 1), (0, 0)), ())):
            self.invalid("once", 1, lets_pieces, NEST, with_row(1, row))
        self.invalid("once", 0, lets_pieces, PAIRS[:2] + (PAIRS[2][::-1],), ("pieces", (1,), ((((0, 0),),), ((),))))
        self.invalid("once", 0, lets_pieces, PAIRS[:2] + (PAIRS[2][::-1],), ("pieces", (1,), ((((1, 0),) * 2,), ((),))))
        self.invalid("once", 0, lets_pieces, (2, (0,), ((0, (1,)),)), ("pieces", (1, 10 ** 59), (((),),)))

    def test_two_faults(self):
        # The constructor that stands first comes first, whatever its fault.
        rows = (SPLIT[2][0], (("a",), ("b",)), (None, ()))
        self.invalid("once", 1, lets_pieces, NEST, ("pieces", (1, 2), rows))
        rows = (((1,),), (("a",),), ((), ()))
        self.invalid("item", 0, lets_pieces, NEST, ("pieces", (1, 2), rows))

    def test_book_first(self):
        for book in BAD_BOOKS:
            self.not_usable("book", lets_pieces, book, SPLIT)
            self.not_usable("book", lets_pieces, book, None)


class Saying(Asking):

    def test_example(self):
        self.assertEqual(texts_said(NEST, SPLIT, (1, 1, 2)), (("a", "a"), ("b", "b")))

    def test_against_slow(self):
        for book, pieces in random_tongues(24, 150):
            for con in range(len(book[2])):
                many = sum([isinstance(item, str) for piece in pieces[2][con] for item in piece])
                self.same(own_words(book, pieces, con), many)
            for rows in trees_by_size(book, 5):
                for tree in [tree for row in rows for tree in row]:
                    texts = slow_texts(book, pieces, tree)
                    self.same(texts_said(book, pieces, tree), texts)
                    self.same(words_said(book, pieces, tree), sum([len(text) for text in texts]))
                    said = sorted([word for text in texts for word in text])
                    own = [item for con in tree for piece in pieces[2][con] for item in piece if isinstance(item, str)]
                    self.assertEqual(said, sorted(own))

    def test_large(self):
        tree = (0,) + (1,) * 998 + (2,)
        self.assertEqual(texts_said(NEST, SPLIT, tree), (("a",) * 998 + ("b",) * 998,))
        self.assertEqual(words_said(NEST, SPLIT, tree), 1996)
        pieces = ("pieces", (1,), ((("x",) * 24,), (((1, 0),) + ("y",) * 22 + ((0, 0),),)))
        tree = (1,) * 499 + (0,) * 500
        self.assertEqual(len(texts_said(PAIRS, pieces, tree)[0]), 499 * 22 + 500 * 24)

    def test_parameters(self):
        good = {"book": NEST, "pieces": SPLIT, "tree": (0, 1, 2)}
        bad = {"book": BAD_BOOKS, "pieces": BAD_PIECES, "tree": BAD_TREES}
        self.asks(texts_said, good, bad)
        self.asks(words_said, good, bad)
        good = {"book": NEST, "pieces": SPLIT, "con": 1}
        self.asks(own_words, good, {"book": BAD_BOOKS, "pieces": BAD_PIECES, "con": (3, -1, True, None, "0", (0,))})


class Silents(Asking):

    def test_examples(self):
        book = (2, (0,), ((0, ()), (0, (1,))))
        self.same(silent_pieces(book, ("pieces", (1, 1), (((),), (("a", (0, 0)),)))), ((0,), (0,)))
        book = (3, (0, 2), ((0, ()), (1, (0,)), (2, (1,))))
        self.same(struck(book, ("pieces", (1, 2, 1), (((),), ((), ((0, 0),)), (((0, 1), "a", (0, 0)),)))),
                  ("pieces", (1, 1, 1), (((),), (((0, 0),),), (("a", (0, 0)),))))

    def slow_silent(self, book, pieces, most):
        rows = trees_by_size(book, most)
        found = []
        for sort in range(book[0]):
            texts = [slow_texts(book, pieces, tree) for row in rows[sort] for tree in row]
            found.append(tuple([j for j in range(pieces[1][sort]) if not any(text[j] for text in texts)]))
        return tuple(found)

    def test_silent(self):
        # Three sorts: a word that comes up at all comes up in trees of height four, and so of few nodes.
        rng = random.Random(25)
        for _ in range(300):
            book = random_book(rng, sorts=2, cons=5, most_kids=2)
            pieces = random_pieces(rng, book, words=("a",))
            self.same(silent_pieces(book, pieces), self.slow_silent(book, pieces, 7))
        self.same(silent_pieces(NEST, SPLIT), ((), ()))
        self.same(silent_pieces(EMPTY, ("pieces", (), ())), ())
        self.same(silent_pieces(NO_CONS, ("pieces", (1, 3), ())), ((0,), (0, 1, 2)))
        self.same(silent_pieces(NO_STARTS, ("pieces", (2, 2), ((((0, 0),), ((0, 1),)), ((), ("x",))))), ((0,), (0,)))

    def samples(self, many):
        rng = random.Random(26)
        for _ in range(many):
            book = trimmed(random_book(rng, cons=7))
            yield book, random_pieces(rng, book, words=("a",))

    def test_struck(self):
        for book, pieces in self.samples(300):
            silent = silent_pieces(book, pieces)
            less = struck(book, pieces)
            self.assertEqual(lets_pieces(book, less), max(less[1], default=0))
            self.same(struck(book, less), less)
            kept = [[j for j in range(width) if j not in silent[sort]] for sort, width in enumerate(pieces[1])]
            self.same(less[1], tuple([max(1, len(row)) for row in kept]))
            for (result, kids), row, new in zip(book[2], pieces[2], less[2]):
                self.same(new, self.slow_row(result, kids, row, kept))
            for sort, rows in enumerate(trees_by_size(book, 4)):
                for tree in [tree for row in rows for tree in row]:
                    texts = slow_texts(book, pieces, tree)
                    left = tuple([texts[j] for j in kept[sort]])
                    self.same(texts_said(book, less, tree), left if kept[sort] else ((),))

    def slow_row(self, result, kids, row, kept):
        """The three steps of [26], one after the other."""
        new = []
        for j in kept[result]:
            piece = [item for item in row[j] if isinstance(item, str) or item[1] in kept[kids[item[0]]]]
            new.append([item if isinstance(item, str) else (item[0], kept[kids[item[0]]].index(item[1]))
                        for item in piece])
        if not new:
            new.append([])
        for k, kid in enumerate(kids):
            if not kept[kid]:
                new[0].append((k, 0))
        return tuple([tuple(piece) for piece in new])

    def test_nothing_to_strike(self):
        self.same(struck(NEST, SPLIT), SPLIT)
        self.same(struck(EMPTY, ("pieces", (), ())), ("pieces", (), ()))
        still = ("pieces", (1, 2), ((((0, 1), (0, 0)),), (((0, 1), (0, 0)), ()), ((), ())))
        self.same(struck(NEST, still), ("pieces", (1, 1), ((((0, 0),),), (((0, 0),),), ((),))))
        one = ("pieces", (1, 2), ((((0, 1), (0, 0)),), (((0, 0),), ((0, 1), "b")), ((), ())))
        self.same(struck(NEST, one), ("pieces", (1, 1), ((((0, 0),),), (((0, 0), "b"),), ((),))))

    def test_put_last(self):
        book = (3, (0,), ((0, (1, 2, 1, 2)), (1, ()), (2, ())))
        pieces = ("pieces", (1, 2, 2), (
            (((1, 1), "x", (0, 1), (3, 0), (2, 0), (0, 0), (1, 0), (2, 1), (3, 1)),), ((), ()), ((), ("w",))))
        new = struck(book, pieces)
        self.same(new, ("pieces", (1, 1, 1), ((((1, 0), "x", (3, 0), (0, 0), (2, 0)),), ((),), (("w",),))))

    def test_parameters(self):
        self.asks(silent_pieces, {"book": NEST, "pieces": SPLIT}, {"book": BAD_BOOKS, "pieces": BAD_PIECES})
        untrimmed = (DEAD, NO_CONS, NO_STARTS, (3, (0,), NEST[2]), (3, (0,), NEST[2] + ((2, (1,)),)), (2, (), NEST[2]))
        books = BAD_BOOKS + untrimmed
        self.asks(struck, {"book": NEST, "pieces": SPLIT}, {"book": books, "pieces": BAD_PIECES})
        extra = (2, (0,), NEST[2] + ((1, (1, 1)),))
        self.same(struck(extra, ("pieces", (1, 1), ((((0, 0),),), (((0, 0),),), (("w",),), (((0, 0), (1, 0)),))))[1],
                  (1, 1))
        for pieces in BAD_PIECES:
            self.not_usable("book", struck, DEAD, pieces)


class Twists(Asking):

    TABLE = ("recode", (("a", ("c", "d")), ("b", ())))

    def test_examples(self):
        self.same(twisted_text(("a", "b", "a"), self.TABLE), ("c", "d", "c", "d"))
        self.same(twisted(NEST, SPLIT, ("mirror",))[2], ((((0, 1), (0, 0)),), (((0, 0), "a"), ("b", (0, 1))), ((), ())))

    def test_is_twist(self):
        for thing in (("same",), ("mirror",), ("recode", ()), self.TABLE, ("recode", (("a", ("a",) * 500),)),
                      ("recode", (("A", ()), ("a", ()), ("b", ("a", "b"))))):
            self.assertIs(is_twist(thing), True, thing)
        for thing in ODD + (("recode",), ("same", ()), ("mirror", None), ("recode", None), ("recode", (), ()), ["same"],
                            "same", ("recode", [("a", ())]), ("recode", (("b", ()), ("a", ()))), ("other",),
                            ("recode", (("a", ()), ("a", ("b",)))), ("recode", (("a", ("b",)), ("a", ()))),
                            ("recode", (("", ()),)), ("recode", (("a", ["b"]),)), ("recode", (("a",),)),
                            ("recode", (("a", ("b c",)),)), ("recode", ("a", ())), ("recode", (["a", ()],)),
                            ("recode", (("a", (), ()),)), (["same"],), (None,), ("recode", ((1, ()),)),
                            (("same",),), ("same", "mirror"), ("recode", (("a", "b"),)), ("recode", "a")):
            self.assertIs(is_twist(thing), False, thing)

    def test_texts(self):
        for words in ((), ("a",), ("a", "b", "c", "a")):
            self.same(twisted_text(words, ("same",)), words)
            self.same(twisted_text(words, ("mirror",)), tuple(reversed(words)))
            self.same(twisted_text(words, ("recode", ())), words)
        self.same(twisted_text(("a", "b", "c"), ("recode", (("a", ("b",)), ("b", ("a", "a"))))), ("b", "a", "a", "c"))

    def test_twisted(self):
        table = ("recode", (("a", ("b", "a")), ("c", ())))
        for book, pieces in random_tongues(27, 100):
            for twist in (("same",), ("mirror",), table, ("recode", ())):
                other = twisted(book, pieces, twist)
                lets_pieces(book, other)
                self.assertEqual(other[1], pieces[1])
                for rows in trees_by_size(book, 4):
                    for tree in [tree for row in rows for tree in row]:
                        texts = slow_texts(book, pieces, tree)
                        self.same(texts_said(book, other, tree), tuple([twisted_text(t, twist) for t in texts]))
            self.same(twisted(book, pieces, ("same",)), pieces)
            self.same(twisted(book, twisted(book, pieces, ("mirror",)), ("mirror",)), pieces)

    def test_slots_stay(self):
        pieces = twisted(NEST, SPLIT, ("recode", (("a", ("x", "y")), ("b", ()))))
        self.same(pieces[2], ((((0, 0), (0, 1)),), (("x", "y", (0, 0)), ((0, 1),)), ((), ())))

    def test_parameters(self):
        twists = (None, ("other",), ("recode",), ["same"], "same", ("recode", None))
        texts = (None, ("",), ["a"], "a", ("a b",), (1,), ("x" * 17,))
        self.asks(twisted_text, {"words": ("a", "b"), "twist": self.TABLE}, {"words": texts, "twist": twists})
        self.asks(twisted, {"book": NEST, "pieces": SPLIT, "twist": self.TABLE},
                  {"book": BAD_BOOKS, "pieces": BAD_PIECES, "twist": twists})


if __name__ == "__main__":
    unittest.main()
