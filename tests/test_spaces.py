"""Spaces of vectors [96]."""

import random
import unittest
from fractions import Fraction

from everytongue.spaces import Space
from asking import Asking


def slow_parts(taken, vector):
    """The fractions with which the vectors, none a sum of the others, add up to one more; None if it is no sum."""
    rows = [[Fraction(other[at]) for other in taken] + [Fraction(entry)] for at, entry in enumerate(vector)]
    done = 0
    for column in range(len(taken)):
        pivot = next((k for k in range(done, len(rows)) if rows[k][column] != 0), None)
        assert pivot is not None
        rows[done], rows[pivot] = rows[pivot], rows[done]
        rows[done] = [entry / rows[done][column] for entry in rows[done]]
        for k in range(len(rows)):
            if k != done and rows[k][column] != 0:
                rows[k] = [one - rows[k][column] * other for one, other in zip(rows[k], rows[done])]
        done += 1
    if any(row[-1] != 0 for row in rows[done:]):
        return None
    return tuple([(row[-1].numerator, row[-1].denominator) for row in rows[:done]])


class Spaces(Asking):

    def fill(self, size, vectors):
        """A Space that is asked to take the vectors, compared with the slow way at each."""
        space = Space(size)
        taken = []
        for vector in vectors:
            due = slow_parts(taken, vector)
            self.same(space.parts(vector), due)
            self.same(space.take(vector), due is None)
            if due is None:
                taken.append(vector)
            self.same(space.told(), tuple(taken))
            self.same(len(space), len(taken))
        return space

    def test_small_vectors(self):
        rng = random.Random(180)
        many = 0
        for _ in range(200):
            size = rng.randint(1, 6)
            vectors = [tuple([rng.choice((0, 0, 1, -1, 2, 5, -7)) for _ in range(size)]) for _ in range(8)]
            many += len(self.fill(size, vectors))
        self.assertTrue(many > 500, many)

    def test_sums(self):
        """Sums with quotients of any size, of entries of any size."""
        rng = random.Random(181)
        for figures in (1, 3, 30, 59, 200):
            for _ in range(12):
                size = rng.randint(3, 7)
                space = Space(size)
                while len(space) < size - 1:
                    space.take(tuple([rng.randint(-10 ** figures, 10 ** figures) for _ in range(size)]))
                taken = space.told()
                tops = [rng.randint(-10 ** figures, 10 ** figures) for _ in taken]
                vector = tuple([sum([top * other[at] for top, other in zip(tops, taken)]) for at in range(size)])
                self.same(space.parts(vector), tuple([(top, 1) for top in tops]))
                self.same(space.take(vector), False)
                # Any vector but one of a place is a sum of the others and that of the place.
                other = tuple([rng.randint(-9, 9) for _ in range(size)])
                self.same(space.parts(other), slow_parts(taken, other))
                self.assertEqual(space.take(other), slow_parts(taken, other) is None)
                if len(space) == size:
                    for at in range(size):
                        unit = (0,) * at + (1,) + (0,) * (size - 1 - at)
                        self.same(space.parts(unit), slow_parts(space.told(), unit))

    def test_unlucky_numbers(self):
        """Vectors that are nothing, or sums, by the numbers that the program may reckon with."""
        for power in (6, 7, 8, 9, 10):
            modulus = 2 ** 2 ** power + 1
            self.fill(2, [(modulus, 0), (0, modulus), (5, 7)])
            self.fill(3, [(1, 0, 1), (1, modulus, 1), (0, 1, 0), (0, 0, modulus), (1, 1, 2)])
            self.fill(2, [(modulus * (modulus + 3), 1), (0, modulus ** 3), (2, 3)])
            self.fill(2, [(1, 1), (1, 1 + modulus ** 2), (5, modulus)])
            self.fill(2, [(1, modulus), (modulus, modulus ** 2), (modulus - 1, modulus ** 2 - modulus), (1, modulus + 1)])
        # The product of all of them, and a divisor of one.
        product = 1
        for power in range(5, 11):
            product *= 2 ** 2 ** power + 1
        self.fill(3, [(product, 0, 0), (1, product, 0), (1, 1, product), (3, 4, 5)])
        self.fill(2, [(1238926361552897, 0), (0, 1238926361552897), (1, 1)])
        self.fill(2, [(641, 641), (641, 0), (6700417, 1)])

    def test_edges(self):
        space = Space(3)
        self.same((len(space), space.told()), (0, ()))
        # Zeros are a sum of none.
        self.same(space.parts((0, 0, 0)), ())
        self.same(space.take((0, 0, 0)), False)
        self.same(space.parts((0, 1, 0)), None)
        self.same(space.take((0, 1, 0)), True)
        self.same(space.parts((0, 0, 0)), ((0, 1),))
        self.same(space.parts((0, -3, 0)), ((-3, 1),))
        self.same(space.take((0, -3, 0)), False)
        self.same(space.told(), ((0, 1, 0),))
        self.fill(1, [(0,), (-6,), (4,), (0,)])
        whole = self.fill(3, [(2, 0, 0), (0, 3, 0), (0, 0, 5), (1, 1, 1)])
        self.same(whole.parts((1, 1, 1)), ((1, 2), (1, 3), (1, 5)))

    def test_equal(self):
        def told(size, *vectors):
            space = Space(size)
            for vector in vectors:
                space.take(vector)
            return space
        self.assertTrue(told(2) == told(2))
        self.assertFalse(told(2) != told(2))
        self.assertFalse(told(2) == told(3))
        self.assertTrue(told(2, (1, 2), (2, 4)) == told(2, (1, 2)))
        self.assertFalse(told(2, (1, 2)) == told(2, (2, 4)))
        self.assertFalse(told(2, (1, 0), (0, 1)) == told(2, (0, 1), (1, 0)))
        self.assertTrue(told(2, (1, 0)) != told(2))
        for other in (None, 2, (), (2, ()), "space", [], Space):
            self.assertFalse(told(2) == other)
            self.assertTrue(told(2) != other)
        # What was asked makes no difference.
        space = told(2, (1, 2))
        space.parts((3, 4))
        self.assertTrue(space == told(2, (1, 2)))

    def test_parameters(self):
        self.asks_new((0, -1, True, None, "2", (2,), ()))
        space = Space(2)
        space.take((1, 2))
        bad = (None, (), (1,), (1, 2, 3), [1, 2], (1, True), (1, None), (1, "2"), 2, ((1, 2),))
        for method in (space.take, space.parts):
            for vector in bad:
                self.not_usable("vector", method, vector)
                self.not_usable("vector", method, vector=vector)
        self.same(space.told(), ((1, 2),))
        self.same(space.take(vector=(0, 1)), True)
        self.same(space.parts(vector=(1, 1)), ((1, 1), (-1, 1)))
        self.same(len(Space(size=5)), 0)

    def asks_new(self, bad):
        """The size is refused."""
        for size in bad:
            self.not_usable("size", Space, size)
            self.not_usable("size", Space, size=size)


if __name__ == "__main__":
    unittest.main()
