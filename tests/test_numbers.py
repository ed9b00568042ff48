"""Quotients, codes and vectors of texts [93] to [95], [102], G11."""

import itertools
import random
import unittest
from fractions import Fraction
from math import gcd

from everytongue.codes import code_of, joined_codes, text_by
from everytongue.kinds import is_quotient
from everytongue.quotients import added, multiplied, quotient_of
from everytongue.saying import texts_said
from everytongue.speaking import words_of
from everytongue.trees import kids_of
from everytongue.vectors import vector_made, vector_of, vector_size
from asking import Asking
from samples import (BAD_BOOKS, BAD_PIECES, NEST, PAIRS, SPLIT, random_book, random_pieces, slow_kids, slow_texts,
                     trees_by_size)
from waysamples import BAD_TEXTS

BAD_INTEGERS = (None, True, False, "1", (1,), (), [1])
BAD_QUOTIENTS = (None, 1, (1,), (2, 4), (1, 0), (1, -2), (0, 2), [1, 2], (True, 1), (1, True), (1, 2, 3), ("1", 2))
BAD_DIGITS = (None, ["a", "b"], ("b", "a"), ("a", "a"), ("",), "ab", ("a", 1), ("a b",), (("a",),))


class Quotients(Asking):

    def told(self, quotient, due):
        """The quotient is in lowest terms, and stands for what is due."""
        self.assertIs(type(quotient), tuple)
        self.assertTrue(is_quotient(quotient) and quotient[1] >= 1 and gcd(*quotient) == 1)
        self.same(quotient, (due.numerator, due.denominator))

    def test_all(self):
        numbers = list(range(-7, 8)) + [12, -30, 10 ** 59, -10 ** 59 + 1, 6 ** 70]
        for top, bottom in itertools.product(numbers, repeat=2):
            if bottom:
                self.told(quotient_of(top, bottom), Fraction(top, bottom))
        rng = random.Random(170)
        for _ in range(2000):
            one, other = [Fraction(rng.choice(numbers), rng.choice(numbers) or 1) for _ in range(2)]
            pairs = [(one.numerator, one.denominator), (other.numerator, other.denominator)]
            self.told(added(*pairs), one + other)
            self.told(multiplied(*pairs), one * other)
        self.same(quotient_of(0, -5), (0, 1))
        self.same(added((1, 2), (-1, 2)), (0, 1))

    def test_parameters(self):
        self.asks(quotient_of, {"top": 3, "bottom": -6}, {"top": BAD_INTEGERS, "bottom": BAD_INTEGERS + (0,)})
        for function in (added, multiplied):
            self.asks(function, {"one": (1, 2), "other": (-2, 3)}, {"one": BAD_QUOTIENTS, "other": BAD_QUOTIENTS})


class Codes(Asking):

    def test_all_texts(self):
        for digits in ((), ("a",), ("a", "b"), ("", "x", "y")[1:], tuple("abcdefghijk")):
            base = len(digits) + 1
            values = {}
            for many in range(4):
                for words in itertools.product(digits, repeat=many):
                    power, value, one = code_of(words, digits)
                    self.same((power, one), (base ** many, 1))
                    figures = [digits.index(word) + 1 for word in words]
                    self.same(value, sum([figure * base ** k for k, figure in enumerate(figures[::-1])]))
                    self.same(text_by(value, digits), words)
                    values[value] = True
            # The numbers without a figure 0 are those of texts; all others are refused.
            for value in range(base ** 3):
                if value not in values:
                    self.not_usable("value", text_by, value, digits)
        self.same(text_by(0, ()), ())
        self.not_usable("value", text_by, 1, ())
        self.not_usable("value", text_by, 10 ** 59, ())

    def test_joined(self):
        rng = random.Random(171)
        digits = ("a", "b", "c")
        for _ in range(300):
            one, other = [tuple([rng.choice(digits) for _ in range(rng.randint(0, 6))]) for _ in range(2)]
            self.same(joined_codes(code_of(one, digits), code_of(other, digits)), code_of(one + other, digits))
            a, b, c, d, e, f = numbers = [rng.randint(-9, 9) for _ in range(6)]
            self.same(joined_codes(tuple(numbers[:3]), tuple(numbers[3:])), (a * d, b * d + c * e, c * f))

    def test_long(self):
        digits = tuple(sorted([f"w{k}" for k in range(100)]))
        words = tuple([digits[k * 7 // 3 - 100 * (k * 7 // 300)] for k in range(400)])
        power, value, _ = code_of(words, digits)
        self.assertEqual(power, 101 ** 400)
        self.same(text_by(value, digits), words)
        self.not_usable("value", text_by, value * 101, digits)

    def test_parameters(self):
        self.asks(code_of, {"words": ("a", "b"), "digits": ("a", "b")}, {"words": BAD_TEXTS, "digits": BAD_DIGITS})
        self.not_usable("words", code_of, ("a", "c"), ("a", "b"))
        self.not_usable("words", code_of, ("a",), ())
        # A word that is no digit comes behind the other refusals.
        self.not_usable("digits", code_of, ("a", "c"), ("b", "a"))
        triples = (None, (), (1, 2), (1, 2, 3, 4), [1, 2, 3], (1, True, 3), (1, "2", 3), 1)
        self.asks(joined_codes, {"one": (9, 5, 1), "other": (-3, 0, 2)}, {"one": triples, "other": triples})
        self.asks(text_by, {"value": 7, "digits": ("a", "b")}, {"value": (-1, None, True, "7", (7,)), "digits": BAD_DIGITS})
        self.not_usable("value", text_by, 3, ("a", "b"))
        self.not_usable("digits", text_by, 3, ("b", "a"))
        self.not_usable("value", text_by, 6, ("a", "b"))


def slow_choices(width):
    """All choices, ascending."""
    return [picks for picks in itertools.product((0, 1, 2), repeat=width) if picks.count(1) <= 1]


class Vectors(Asking):

    def slow_vector(self, row, digits):
        """Entry by entry."""
        vector = []
        for picks in slow_choices(len(row)):
            entry = 1
            for words, pick in zip(row, picks):
                entry *= code_of(words, digits)[pick]
            vector.append(entry)
        return tuple(vector)

    def slow_made(self, book, pieces, con, vectors, digits):
        """All ways to give all elements of the row 0, 1 or 2, those kept that [95] tells."""
        row = pieces[2][con]
        made = []
        for picks in slow_choices(len(row)):
            ways = []
            for piece, pick in zip(row, picks):
                told = itertools.product((0, 1, 2), repeat=len(piece))
                if pick == 1:
                    ways.append([way for way in told if way.count(1) == 1 and list(way) == sorted(way, key=(2, 1, 0).index)])
                else:
                    ways.append([way for way in told if set(way) <= {pick}])
            entry = 0
            for way in itertools.product(*ways):
                factor = 1
                slots = {}
                for piece, told in zip(row, way):
                    for item, pick in zip(piece, told):
                        if isinstance(item, str):
                            factor *= code_of((item,), digits)[pick]
                        else:
                            slots[item] = pick
                for k, kid in enumerate(book[2][con][1]):
                    choice = tuple([slots[(k, piece)] for piece in range(pieces[1][kid])])
                    factor *= vectors[k][slow_choices(pieces[1][kid]).index(choice)]
                entry += factor
            made.append(entry)
        return tuple(made)

    def test_sizes(self):
        for width in range(1, 13):
            self.same(vector_size(width), (width + 2) * 2 ** (width - 1))
            if width < 8:
                self.assertEqual(vector_size(width), len(slow_choices(width)))
        self.asks(vector_size, {"width": 12}, {"width": (0, 13, -1, True, None, "2", (2,))})

    def test_rows(self):
        rng = random.Random(172)
        digits = ("a", "b", "c")
        for width in range(1, 7):
            for _ in range(4):
                row = tuple([tuple([rng.choice(digits) for _ in range(rng.randint(0, 3))]) for _ in range(width)])
                self.same(vector_of(row, digits), self.slow_vector(row, digits))
        self.same(vector_of(((),), ()), (1, 0, 1))
        self.same(vector_of((("a",),), ("a",)), (2, 1, 1))
        # The last entry is 1, and vectors of unlike rows are unlike.
        rows = list(itertools.product([(), ("a",), ("b",), ("a", "b")], repeat=2))
        self.assertEqual(len({vector_of(row, digits) for row in rows}), len(rows))

    def test_made_of_kids(self):
        rng = random.Random(173)
        many = 0
        for _ in range(200):
            book = random_book(rng, most_kids=3)
            pieces = random_pieces(rng, book, width=rng.choice((1, 2, 3)))
            digits = tuple(sorted(set(words_of(book, pieces)) | set(rng.sample(("0", "d", "e"), rng.randint(0, 3)))))
            for rows in trees_by_size(book, 4):
                for tree in [tree for row in rows for tree in row][:12]:
                    kids = tuple([vector_of(slow_texts(book, pieces, kid), digits) for kid in slow_kids(book, tree)])
                    self.same(vector_made(book, pieces, tree[0], kids, digits),
                              vector_of(texts_said(book, pieces, tree), digits))
                    many += 1
            for con, (_, kids) in enumerate(book[2]):
                if sum([len(piece) for piece in pieces[2][con]]) < 8:
                    vectors = tuple([self.any_vector(rng, pieces[1][kid]) for kid in kids])
                    self.same(vector_made(book, pieces, con, vectors, digits),
                              self.slow_made(book, pieces, con, vectors, digits))
        self.assertTrue(many > 300, many)

    def any_vector(self, rng, width):
        """Any integers, as many as the vector of a row of this width has."""
        return tuple([rng.randint(-5, 5) for _ in range(vector_size(width))])

    def test_linear(self):
        rng = random.Random(174)
        for _ in range(80):
            book = random_book(rng, most_kids=3)
            pieces = random_pieces(rng, book, width=2)
            digits = tuple(sorted(words_of(book, pieces)))
            for con, (_, kids) in enumerate(book[2]):
                vectors = [self.any_vector(rng, pieces[1][kid]) for kid in kids]
                for k, kid in enumerate(kids):
                    other = self.any_vector(rng, pieces[1][kid])
                    a, b = rng.randint(-3, 3), rng.randint(-3, 3)
                    mixed = tuple([a * x + b * y for x, y in zip(vectors[k], other)])
                    told = [vector_made(book, pieces, con, tuple(vectors[:k] + [vector] + vectors[k + 1:]), digits)
                            for vector in (vectors[k], other, mixed)]
                    self.same(told[2], tuple([a * x + b * y for x, y in zip(*told[:2])]))

    def test_edges(self):
        # A piece without elements: its number is 0.
        self.same(vector_made(NEST, SPLIT, 2, (), ()), (1, 0, 1, 0, 0, 1, 0, 1))
        # Widths of six, one piece each of one kid.
        book = (2, (0,), ((0, (1,)), (1, ())))
        rows = (((tuple([(0, k) for k in (3, 1, 5, 0, 2, 4)])),), tuple([("a",) * k for k in range(6)]))
        pieces = ("pieces", (1, 6), rows)
        leaf = vector_made(book, pieces, 1, (), ("a",))
        self.same(leaf, vector_of(rows[1], ("a",)))
        self.assertEqual(len(leaf), 256)
        self.same(vector_made(book, pieces, 0, (leaf,), ("a",)), (2 ** 15, 2 ** 15 - 1, 1))
        for tree in ((0, 2), (0, 1, 2), (0, 1, 1, 2)):
            kids = tuple([vector_of(texts_said(NEST, SPLIT, kid), ("a", "b")) for kid in kids_of(NEST, tree)])
            self.same(vector_made(NEST, SPLIT, 0, kids, ("a", "b")), vector_of(texts_said(NEST, SPLIT, tree), ("a", "b")))
        # Four kids with a word between each two.
        book = (1, (0,), PAIRS[2] + ((0, (0, 0, 0, 0)),))
        pieces = ("pieces", (1,), ((("x",),), (((0, 0), (1, 0)),), (((3, 0), "y", (0, 0), "x", (2, 0), (1, 0)),)))
        kid = vector_of((("x",),), ("x", "y"))
        self.same(vector_made(book, pieces, 2, (kid,) * 4, ("x", "y")), vector_of((("x", "y", "x", "x", "x", "x"),), ("x", "y")))

    def test_parameters(self):
        rows = (None, (), [("a",)], ("a",), (["a"],), (("a", 1),), (("",),), "a", ((("a",),),))
        self.asks(vector_of, {"row": (("a",), ()), "digits": ("a", "b")}, {"row": rows, "digits": BAD_DIGITS})
        self.not_usable("row", vector_of, (("a",), ("c",)), ("a", "b"))
        self.not_usable("digits", vector_of, (("a",), ("c",)), ("b", "a"))
        pair = vector_of((("a",), ("b",)), ("a", "b"))
        vectors = (None, (), pair, (pair, pair), [pair], (list(pair),), (pair[1:],), (pair + (1,),), ((True,) + pair[1:],),
                   ((None,) + pair[1:],))
        self.asks(vector_made, {"book": NEST, "pieces": SPLIT, "con": 1, "vectors": (pair,), "digits": ("a", "b")},
                  {"book": BAD_BOOKS, "pieces": BAD_PIECES, "con": (3, -1, True, None, "1"), "vectors": vectors,
                   "digits": BAD_DIGITS + (("a",), ("b", "c"), ())})
        # Only the words of the constructor's own row are asked for.
        self.same(vector_made(NEST, SPLIT, 0, (pair,), ()), vector_made(NEST, SPLIT, 0, (pair,), ("q",)))


if __name__ == "__main__":
    unittest.main()
