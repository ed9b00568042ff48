"""Spaces of vectors that are no sums of each other.

Sums are looked for modulo a great number, and then told by quotients. The vectors taken in
are no sums of each other modulo that number, either; so the bottoms of quotients have no
divisor above 1 in common with it, and figures of quotients to this base can be told one
after the other.
"""

from math import gcd, isqrt, lcm

from everytongue.kinds import is_each, is_integer
from everytongue.quotients import lowest
from everytongue.refusing import require


class Space:
    """Vectors taken in one by one."""

    def __init__(self, size):
        require(is_integer(size) and size >= 1, "size")
        self._size = size
        self._taken = []
        self._modulus = (2 ** 64) ** 4 + 1
        self._rows = []

    def take(self, vector):
        """Take the vector in; False if it is a sum of those taken in, which then stay as they are."""
        require(self._is_vector(vector), "vector")
        if self._sum_parts(vector) is not None:
            return False
        self._taken.append(vector)
        row = new_row(self._rows, self._modulus, vector)
        while row is None:
            # No two of these numbers have a common divisor, so some of them do.
            self._modulus = (self._modulus - 1) ** 2 + 1
            row = self._tell_rows()
        self._rows.append(row)
        return True

    def parts(self, vector):
        """The quotients with which the vectors taken in add up to the vector; None if it is no sum."""
        require(self._is_vector(vector), "vector")
        return self._sum_parts(vector)

    def told(self):
        """The vectors taken in, in sequence."""
        return tuple(self._taken)

    def __len__(self):
        """How many vectors are taken in."""
        return len(self._taken)

    def __eq__(self, other):
        """Whether other is a Space of the same size with the same vectors."""
        return isinstance(other, Space) and self._size == other._size and self._taken == other._taken

    def _is_vector(self, thing):
        """Whether thing is a tuple of as many integers as the size tells."""
        return is_each(thing, is_integer) and len(thing) == self._size

    def _tell_rows(self):
        """Tell all rows but the last one anew, for a new modulus; return that one, or None if some can't be told."""
        self._rows = []
        for vector in self._taken:
            row = new_row(self._rows, self._modulus, vector)
            if row is None or len(self._rows) + 1 == len(self._taken):
                return row
            self._rows.append(row)
        return None

    def _sum_parts(self, vector):
        """What parts returns, for what is known to be a vector."""
        figures = [0] * len(self._taken)
        power, steps, tried = 1, 0, 0
        rest = vector
        while any(rest):
            left, places = reduced(self._rows, self._modulus, rest)
            if any(left):
                return None
            figures = [old + power * new for old, new in zip(figures, places)]
            power *= self._modulus
            rest = rest_of(self._taken, self._modulus, rest, places)
            steps += 1
            # Long sums are tried less often.
            if any(rest) and steps >= 2 * tried:
                tried = steps
                found = quotients_by(figures, power)
                if found is not None and adds_up(self._taken, found, vector):
                    return tuple(found)
        return tuple([(figure, 1) for figure in figures])


def reduced(rows, modulus, vector):
    """What the rows leave of the vector, modulo modulus; then how often each vector taken in was taken away.

    A row is a triple of a place, a vector with 1 at it and 0 at the places of rows before,
    and the factors with which vectors taken in add up to it.
    """
    left = [entry % modulus for entry in vector]
    places = [0] * len(rows)
    for place, row, factors in rows:
        times = left[place]
        if times:
            left = [(one - times * other) % modulus for one, other in zip(left, row)]
            for k, factor in enumerate(factors):
                places[k] += times * factor
    half = modulus // 2
    return left, [(many + half) % modulus - half for many in places]


def new_row(rows, modulus, vector):
    """The row of one more vector, as reduced tells rows; None if none can be told for this modulus."""
    left, places = reduced(rows, modulus, vector)
    for place, entry in enumerate(left):
        if entry and gcd(entry, modulus) == 1:
            factor = inverse(entry, modulus)
            factors = [-many * factor % modulus for many in places] + [factor]
            return (place, [other * factor % modulus for other in left], factors)
    return None


def inverse(entry, modulus):
    """What makes 1 of the entry, modulo modulus; they have no common divisor."""
    high, low = modulus, entry
    before, after = 0, 1
    while low:
        times = high // low
        high, low = low, high - times * low
        before, after = after, before - times * after
    return before % modulus


def rest_of(taken, modulus, vector, places):
    """The vector without so many of each vector taken in, divided by modulus."""
    left = list(vector)
    for many, other in zip(places, taken):
        if many:
            left = [entry - many * part for entry, part in zip(left, other)]
    return [entry // modulus for entry in left]


def quotients_by(figures, modulus):
    """Quotients of small tops and bottoms that are these figures modulo modulus; None if there are none."""
    root = isqrt(modulus // 2)
    bottom = 1
    found = []
    for figure in figures:
        # With the bottom of those before, most are told by a small top alone.
        top = (figure * bottom + root) % modulus - root
        if top > root:
            top, more = small_ratio(top, modulus, root)
            if abs(more) > root:
                return None
            bottom *= more
        found.append(lowest(top, bottom))
    return found


def small_ratio(figure, modulus, root):
    """A number of at most root, and one such that figure times this is that number modulo modulus."""
    high, low = modulus, figure
    before, after = 0, 1
    while low > root:
        times = high // low
        high, low = low, high - times * low
        before, after = after, before - times * after
    return low, after


def adds_up(taken, parts, vector):
    """Whether the vectors taken in, each times its quotient, add up to the vector."""
    bottom = 1
    for _, part in parts:
        bottom = lcm(bottom, part)
    factors = [top * (bottom // part) for top, part in parts]
    for at, entry in enumerate(vector):
        if sum([factor * other[at] for factor, other in zip(factors, taken)]) != bottom * entry:
            return False
    return True
