"""What tests ask of functions that refuse what they are passed."""

import copy
import re
import unittest

from everytongue.errors import InvalidPaper, NotUsable, TongueError


class Asking(unittest.TestCase):
    """Tests with questions about errors."""

    def refused(self, error, fields, function, *args, **named):
        """The call raises just this error with just these fields, and changes nothing."""
        before = copy.deepcopy((args, named))
        with self.assertRaises(TongueError) as caught:
            function(*args, **named)
        self.assertIs(type(caught.exception), error, caught.exception)
        self.assertEqual(tuple(vars(caught.exception).values()), fields, args)
        for field in vars(caught.exception).values():
            self.assertIn(type(field), (str, int))
        self.assertEqual((args, named), before)
        # Objects are shown with where they are kept.
        self.same(re.sub(" at 0x[0-9a-f]+", "", repr((args, named))), re.sub(" at 0x[0-9a-f]+", "", repr(before)))

    def same(self, one, other):
        """Two values are equal, and of the same kinds throughout."""
        self.assertEqual(repr(one), repr(other))

    def invalid(self, word, at, function, *args):
        """A checker says that its paper is invalid."""
        self.refused(InvalidPaper, (word, at), function, *args)

    def not_usable(self, word, function, *args, **named):
        """A parameter is refused."""
        self.refused(NotUsable, (word, -1), function, *args, **named)

    def asks(self, function, good, bad, free=()):
        """Each parameter is refused, alone and ahead of and behind another one; calls by name work.

        good has the parameters' names with good values, in sequence; bad has values
        that are not as stated, for each name; free are parameters with any value.
        """
        names = list(good)
        self.assertEqual(function.__code__.co_varnames[:len(names)], tuple(names))
        args = list(good.values())
        told = function(*copy.deepcopy(args))
        self.same(function(**copy.deepcopy(good)), told)
        self.same(function(*args), told)
        self.same(list(good.values()), args)
        self.assertEqual(set(bad) | set(free), set(names))
        for k, name in enumerate(names):
            for value in bad.get(name, ()):
                with self.subTest(function=function.__name__, name=name, value=value):
                    self.not_usable(name, function, *(args[:k] + [value] + args[k + 1:]))
                    self.not_usable(name, function, **dict(good, **{name: value}))
                    for other in names[k + 1:]:
                        for worse in bad.get(other, ())[:2]:
                            both = dict(good, **{name: value, other: worse})
                            self.not_usable(name, function, *both.values())
                            self.not_usable(name, function, **both)
