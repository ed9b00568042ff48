"""The examples that the document shows from stage 14 on."""

import doctest
import unittest

from everytongue.alike import alike
from everytongue.beginnings import next_words
from everytongue.booktexts import book_text
from everytongue.codes import code_of, text_by
from everytongue.growthchecker import lets_growth
from everytongue.lexicons import named_tree, read_named
from everytongue.marked import marked_items
from everytongue.noreading import no_reading
from everytongue.notranslation import no_translation
from everytongue.quotients import added, quotient_of
from everytongue.readings import first_readings
from everytongue.returning import back_and_forth
from everytongue.shortest import shortest
from everytongue.spaces import Space
from everytongue.textrows import text_rows
from everytongue.tonguetexts import tongue_text
from everytongue.translating import translated
from everytongue.vectors import vector_made, vector_of
from everytongue.wordcounts import word_counts
from samples import NEST, SPLIT, WALK

EXAMPLES = r"""
    >>> first_readings(NEST, WALK, ("a", "a", "b", "b"), 5)
    ((0, 1, 1, 2),)

    >>> no_reading(NEST, SPLIT, ("a",))
    ((((0, 0),), ((1, 1),)), (((0, 0), (0, 0)), ((0, 0), (1, 1)), ((1, 1), (0, 0)), ((1, 1), (1, 1))))

    >>> next_words(NEST, SPLIT, ("a",)), next_words(NEST, SPLIT, ()), next_words(NEST, SPLIT, ("b",))
    ((('a', 'b'), False), (('a',), True), ((), False))

    >>> COUNT = ("pieces", (1, 1), ((((0, 0),),), (("x", (0, 0)),), ((),)))
    >>> translated(NEST, SPLIT, ("a", "a", "b", "b"), COUNT, 1), translated(NEST, SPLIT, ("b",), COUNT, 0)
    ((('x', 'x'),), ())

    >>> no_translation(NEST, SPLIT, ("a", "b"), ("walker", 1, ()))
    ('unsaid', (((-1,),), ((-1,),), ((-1,),)))

    >>> back_and_forth(NEST, SPLIT, ("a", "b"), COUNT, 1)
    (('a', 'b'),)

    >>> DUO = (2, (0,), ((0, (1, 1)), (1, ()), (1, ())))
    >>> FEW = (DUO, (0, 1, 2), ("pieces", (1, 1), ((((0, 0), (1, 0)),), (("a",),), ((),))))
    >>> text_rows(FEW)
    ((((),), (('a',),), (('a', 'a'),)), (((),), (('a',),)))

    >>> shortest(FEW)
    ((), (0, 2, 2))

    >>> lets_growth((NEST, (0, 1, 2), SPLIT), ("endless", ((0, -1), (1, -1), (2,))))
    'endless'

    >>> word_counts(FEW, 3), word_counts((NEST, (0, 1, 2), SPLIT), 4)
    ((1, 2, 1, 0), (1, 0, 1, 0, 1))

    >>> quotient_of(6, -4), added((1, 2), (1, 3))
    ((-3, 2), (5, 6))

    >>> code_of(("a", "b"), ("a", "b")), text_by(7, ("a", "b"))
    ((9, 5, 1), ('b', 'a'))

    >>> pair = vector_of((("a",), ("b",)), ("a", "b"))
    >>> pair, vector_made(NEST, SPLIT, 0, (pair,), ("a", "b"))
    ((9, 6, 3, 3, 1, 3, 2, 1), (9, 5, 1))

    >>> space = Space(2)
    >>> space.take((1, 2)), space.take((2, 4)), space.take((0, 3)), space.parts((1, 0))
    (True, False, True, ((1, 1), (-2, 3)))

    >>> alike(NEST, SPLIT, WALK, ("mirror",))
    ('part', (0, 1, 2))
    >>> leaf, word = (1, (0,), ((0, ()),)), ("pieces", (1,), ((("a",),),))
    >>> alike(leaf, word, word, ("same",))
    ('alike', (((((), ()),),), (((0, ()),),), ((((1, 1),),),)))

    >>> LEX = (("s", "a"), ("top", "wrap", "end"))
    >>> [named_tree(NEST, LEX, (0, 1, 2)), read_named(NEST, LEX, "wrap(end)")]
    ['top(wrap(end))', (1, 2)]

    >>> book_text(NEST, LEX)
    'sorts s a\nstarts s\ncon top s a\ncon wrap a a\ncon end a'

    >>> tongue_text(NEST, LEX, SPLIT)
    "pieces\nwidth s 1\nwidth a 2\nsay top 0.0 0.1\nsay wrap 'a' 0.0 | 0.1 'b'\nsay end - | -"

    >>> marked_items((1, (0,), ((0, ()),)), ("pieces", (1,), ((("a",),),)), ("a", "b", "a"), 1, 1)
    ((((0, 0, 1),), ((1, 1, 0),)),)
"""
NAMES = dict(globals())


class Examples(unittest.TestCase):

    def test_all(self):
        test = doctest.DocTestParser().get_doctest(EXAMPLES, NAMES, "examples", None, 0)
        self.assertTrue(len(test.examples) > 25)
        told = []
        self.assertEqual(doctest.DocTestRunner().run(test, out=told.append).failed, 0, told)


if __name__ == "__main__":
    unittest.main()
