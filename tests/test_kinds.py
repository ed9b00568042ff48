"""What single values are [13]."""

import unittest

from everytongue.kinds import is_number, is_quotient, is_text, is_word
from samples import ODD


class Kinds(unittest.TestCase):

    def test_example(self):
        told = [is_number(True), is_word("it's"), is_text(("a", "b")), is_quotient((2, 4))]
        self.assertEqual(told, [False, False, True, False])

    def test_numbers(self):
        for thing in (0, 1, 7, 10 ** 59):
            self.assertIs(is_number(thing), True)
        for thing in (True, False, None, -1, -10 ** 59, "1", (1,), [1], ()):
            self.assertIs(is_number(thing), False)

    def test_words(self):
        for thing in ("a", "0", "A-b", '"', "~", "\\", "x" * 16):
            self.assertIs(is_word(thing), True, thing)
        for thing in ("", "x" * 17, "a b", " ", "a\n", "\n", "50%", "%", "it's", "'", None, 1, ("a",), ["a"], True):
            self.assertIs(is_word(thing), False, thing)

    def test_texts(self):
        for thing in ((), ("a",), ("a", "a"), ("x" * 16,) * 500):
            self.assertIs(is_text(thing), True)
        for thing in (["a"], "a", ("a", ""), ("a", 1), (("a",),), None, ("a b",), 0, False, ("a", "x" * 17)):
            self.assertIs(is_text(thing), False)

    def test_quotients(self):
        for thing in ((0, 1), (1, 1), (-1, 1), (2, 3), (-3, 2), (10 ** 59, 10 ** 59 + 1)):
            self.assertIs(is_quotient(thing), True, thing)
        for thing in ((0, 2), (0, 0), (1, 0), (1, -1), (2, 4), (-2, 4), (True, 1), (1, True), (0, -1), (1,), (),
                      (1, 1, 1), [1, 2], "12", None, 1, (1, "2"), (1, None), ((1, 1), 1)):
            self.assertIs(is_quotient(thing), False, thing)

    def test_any_value(self):
        for test in (is_number, is_word, is_text, is_quotient):
            for thing in ODD:
                self.assertIn(test(thing), (True, False))
            deep = ()
            for _ in range(29):
                deep = (deep, [deep])[:1]
            self.assertIs(test(deep), False)


if __name__ == "__main__":
    unittest.main()
