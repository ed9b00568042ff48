"""Tongues of all ways: checked, said, led into each other, lifted, blocks [63] to [68], [72], G7."""

import unittest

from everytongue.errors import InvalidPaper
from everytongue.erasing import erased, made_pieces, sorts_matched
from everytongue.formchecker import lets_form
from everytongue.givenfunctions import functions_of
from everytongue.givenwalkers import walker_of
from everytongue.givenwebs import webs_of
from everytongue.leading import block_book, block_tongue
from everytongue.lifting import lifted
from everytongue.madefunctions import made_functions
from everytongue.madewalkers import made_walker
from everytongue.madewebs import made_webs
from everytongue.making import form_of, led, one_width, widest
from everytongue.piecechecker import lets_pieces
from everytongue.speaking import says, words_of
from everytongue.termchecker import lets_functions
from everytongue.tonguechecker import lets_tongue
from everytongue.trimming import trimmed
from everytongue.walkerchecker import lets_walker
from everytongue.webchecker import lets_webs
from asking import Asking
from samples import (BAD_BOOKS, BAD_TREES, DEAD, EMPTY, FOUR, MEAN, NEST, NO_CONS, NO_STARTS, ODD, SPLIT, WALK,
                     start_trees)
from waysamples import BAD_FORMS, BAD_TONGUES, HALT, NET, slow_says, tongue_samples

BAD_STARTS = BAD_TREES + ((2,), (1, 2))
WAYS = ("pieces", "functions", "walker", "webs")
CHECKERS = {"pieces": lets_pieces, "functions": lets_functions, "walker": lets_walker, "webs": lets_webs}


class LetsTongue(Asking):

    def test_ways(self):
        for way, tongue in zip(WAYS, (SPLIT, MEAN, WALK, NET)):
            self.same(lets_tongue(NEST, tongue), way)
            self.same(lets_tongue(thing=tongue, book=NEST), way)
        for tongue in (("pieces", (), ()), ("functions", (), ()), ("walker", 1, ()), ("webs", (), ())):
            self.same(lets_tongue(EMPTY, tongue), tongue[0])

    def test_way(self):
        for thing in ODD[:12] + (ODD[13], ("piece", (), ()), ("PIECES",) + SPLIT[1:], list(SPLIT), (SPLIT,), "pieces",
                                 (True, 1, ()), (("walker", 1, ()),), ([], 1, ()), (None,), (0,), ("",)):
            self.invalid("way", -1, lets_tongue, NEST, thing)

    def test_as_the_four(self):
        """Behind the way, each fault is told as its own checker tells it."""
        faults = {}
        things = list(BAD_TONGUES)
        for tongue in (SPLIT, MEAN, WALK, NET):
            things += [tongue[:2], tongue + (1,), tongue[:1] + (None,) + tongue[2:], tongue[:2] + (None,)]
            for at in range(len(tongue[2])):
                for worse in (None, (), ((None,),), tongue[2][at][:1]):
                    things.append(tongue[:2] + (tongue[2][:at] + (worse,) + tongue[2][at + 1:],))
        for thing in things:
            if isinstance(thing, tuple) and thing and isinstance(thing[0], str) and thing[0] in WAYS:
                try:
                    CHECKERS[thing[0]](NEST, thing)
                except InvalidPaper as error:
                    self.invalid(error.word, error.at, lets_tongue, NEST, thing)
                    faults[(thing[0], error.word)] = True
                    continue
                self.same(lets_tongue(NEST, thing), thing[0])
            else:
                self.invalid("way", -1, lets_tongue, NEST, thing)
        self.assertTrue(len(faults) > 14, sorted(faults))

    def test_book_first(self):
        for book in BAD_BOOKS:
            self.not_usable("book", lets_tongue, book, SPLIT)
            self.not_usable("book", lets_tongue, book, None)


class Says(Asking):

    def test_examples(self):
        self.same((says(NEST, MEAN, (0, 1, 2)), words_of(NEST, WALK)), (("a", "b"), ("a", "b")))

    def test_all_ways(self):
        unsaid = 0
        for book, tongues in tongue_samples(100, 50):
            for tongue in tongues:
                self.same(lets_tongue(book, tongue), tongue[0])
                for tree in start_trees(book, 5)[:15]:
                    due = slow_says(book, tongue, tree)
                    unsaid += due is None
                    self.same(says(book, tongue, tree), due)
        self.assertTrue(unsaid > 50)

    def test_unsaid(self):
        self.assertIsNone(says(NEST, HALT, (0, 1, 2)))
        self.same(says(NEST, HALT, (0, 2)), ())
        dead = ("webs", (2, 2), NET[2][:2] + ((2, (0, 1), (), ()),))
        self.assertIsNone(says(NEST, dead, (0, 2)))
        for tongue in (SPLIT, MEAN, WALK, NET):
            self.same(says(NEST, tongue, (0, 1, 1, 2)), ("a", "a", "b", "b"))

    def test_words(self):
        # Words that stand there, used or not.
        book = (2, (0,), ((0, ()), (1, (1,))))
        self.same(words_of(book, ("pieces", (1, 2), ((("b", "a", "b"),), (("c", (0, 0)), ((0, 1), "a"))))),
                  ("a", "b", "c"))
        self.same(words_of(book, ("walker", 2, ((0, 0, 0, ("z",), 0, 0), (1, 1, 1, ("y", "x"), 0, 0)))),
                  ("x", "y", "z"))
        self.same(words_of(book, ("webs", (2, 1), ((3, (0, 1), ((0, 2, ("q", "p")), (0, 2, ())), ()),
                                                   (2, (0,), ((1, 0, ("r",)),), ((1,),))))), ("p", "q", "r"))
        self.same(words_of(book, functions_of(book, ("pieces", (1, 2), ((("var", "lam"),), (("app", (0, 0)), ((0, 1),)))))),
                  ("app", "lam", "var"))
        for way in (("pieces", (), ()), ("functions", (), ()), ("walker", 1, ()), ("webs", (), ())):
            self.same(words_of(EMPTY, way), ())
        # Ascending as Python sorts.
        self.same(words_of((1, (0,), ((0, ()),)), ("pieces", (1,), ((("b", "B", "aa", "a", "~", "1"),),))),
                  ("1", "B", "a", "aa", "b", "~"))

    def test_parameters(self):
        self.asks(says, {"book": NEST, "tongue": WALK, "start_tree": (0, 1, 2)},
                  {"book": BAD_BOOKS, "tongue": BAD_TONGUES, "start_tree": BAD_STARTS})
        self.asks(words_of, {"book": NEST, "tongue": NET}, {"book": BAD_BOOKS, "tongue": BAD_TONGUES})


class Making(Asking):

    def test_examples(self):
        self.same((widest(form_of(NEST, SPLIT)), widest(form_of(NEST, WALK))), (2, 1))
        self.same((led(NEST, SPLIT, "pieces") == (NEST, (0, 1, 2), SPLIT), one_width(NEST, SPLIT)), (True, (2, 2, 4)))

    def test_forms(self):
        makers = {"pieces": made_pieces, "functions": made_functions, "walker": made_walker, "webs": made_webs}
        for book, tongues in tongue_samples(101, 40):
            for tongue in tongues:
                form = form_of(book, tongue)
                self.same(form, makers[tongue[0]](book, tongue))
                lets_form(book, form)
                self.same(widest(form), max(form[2][1], default=1))

    def test_led(self):
        """Start trees of made are one to one with those that are said, and say the same, in each way."""
        for book, tongues in tongue_samples(102, 25):
            for tongue in tongues:
                due = {tree: slow_says(book, tongue, tree) for tree in start_trees(book, 5)}
                due = {tree: text for tree, text in due.items() if text is not None}
                for way in WAYS:
                    made, erase, told = led(book, tongue, way)
                    self.assertEqual(lets_tongue(made, told), way)
                    self.same(trimmed(made), made)
                    trees = start_trees(made, 5)
                    found = {tuple([erase[con] for con in tree]): says(made, told, tree) for tree in trees}
                    self.assertEqual(found, due)
                    self.assertEqual(len(trees), len(due))

    def test_widths(self):
        for book, tongues in tongue_samples(103, 40):
            for tongue in tongues:
                width, states, rank = one_width(book, tongue)
                self.same((states, rank), (width, 2 * width))
                self.same(width, widest(form_of(book, tongue)))
                made = led(book, tongue, "pieces")[0]
                if made[0]:
                    self.same(max(led(book, tongue, "pieces")[2][1]), width)
                    self.same(led(book, tongue, "walker")[2][1], states)
                    self.same(max(led(book, tongue, "webs")[2][1]), rank)
                else:
                    self.same(width, 1)
                # [72]: bounds for walkers and webs; led again, nothing gets wider.
                if tongue[0] == "walker":
                    self.assertTrue(width <= tongue[1])
                if tongue[0] == "webs":
                    self.assertTrue(width == 1 or 2 * width <= max(tongue[1]))
                for way in ("walker", "webs"):
                    made, _, told = led(book, tongue, way)
                    self.assertTrue(one_width(made, told)[0] <= width)

    def test_led_is_given(self):
        for tongue in (SPLIT, MEAN, WALK, NET):
            made, erase, said = form_of(NEST, tongue)
            self.same(led(NEST, tongue, "pieces"), (made, erase, said))
            self.same(led(NEST, tongue, "functions"), (made, erase, functions_of(made, said)))
            self.same(led(NEST, tongue, "walker"), (made, erase, walker_of(made, said)))
            self.same(led(NEST, tongue, "webs"), (made, erase, webs_of(made, said)))

    def test_edges(self):
        empty = {"pieces": ("pieces", (), ()), "functions": ("functions", (), ()), "walker": ("walker", 1, ()),
                 "webs": ("webs", (), ())}
        for way in WAYS:
            self.same(led(EMPTY, empty[way], way), (EMPTY, (), empty[way]))
            self.same(led(NEST, ("walker", 3, ()), way), (EMPTY, (), empty[way]))
            self.same(one_width(EMPTY, empty[way]), (1, 1, 2))
        self.same(one_width(NEST, ("walker", 6, ())), (1, 1, 2))
        self.same(one_width(NO_CONS, ("pieces", (1, 6), ())), (1, 1, 2))
        self.same(one_width(NO_STARTS, ("pieces", (5, 6), ((((0, 0), (0, 1)), ((0, 2),), ((0, 3), (0, 4)), ((0, 5),), ()),
                                                          ((),) * 6))), (1, 1, 2))
        self.same(widest((EMPTY, (), ("pieces", (), ()))), 1)
        # A form whose made is not trimmed is a form.
        self.same(widest((NO_CONS, (), ("pieces", (1, 6), ()))), 6)
        self.same(led(DEAD, ("pieces", (1, 1, 1), ((((0, 0),),), (("w",),), (((0, 0), (1, 0)),))), "pieces"),
                  ((2, (0,), ((0, (1,)), (1, ()))), (0, 1), ("pieces", (1, 1), ((((0, 0),),), (("w",),)))))

    def test_parameters(self):
        self.asks(form_of, {"book": NEST, "tongue": NET}, {"book": BAD_BOOKS, "tongue": BAD_TONGUES})
        self.asks(widest, {"form": (NEST, (0, 1, 2), SPLIT)}, {"form": BAD_FORMS[:-2] + (BAD_FORMS[-1],
                                                                                        (NEST, (0, 0, 0), SPLIT))})
        self.asks(one_width, {"book": NEST, "tongue": NET}, {"book": BAD_BOOKS, "tongue": BAD_TONGUES})
        for way in WAYS:
            self.asks(led, {"book": NEST, "tongue": WALK, "way": way},
                      {"book": BAD_BOOKS, "tongue": BAD_TONGUES,
                       "way": (None, "", "piece", "Walker", 0, True, ("pieces",), ["webs"], "web", [])})


class Lifted(Asking):

    def test_example(self):
        first = ((2, (0,), ((0, (1,)), (1, ()))), (0, 2), ("pieces", (1, 1), ((((0, 0),),), ((),))))
        self.same(lifted(NEST, first, WALK),
                  ("walker", 1, ((0, 0, 0, (), 1, 0), (0, 0, 1, (), 0, 0), (0, 1, 0, (), 0, 0))))

    def test_says(self):
        """A lifted tongue says of a tree of made what the tongue says of the erased one."""
        for book, tongues in tongue_samples(104, 30):
            for one in tongues:
                form = form_of(book, one)
                for other in tongues:
                    told = lifted(book, form, other)
                    self.same(lets_tongue(form[0], told), other[0])
                    for tree in start_trees(form[0], 4)[:6]:
                        self.same(says(form[0], told, tree), slow_says(book, other, erased(form, tree)))

    def test_just_so(self):
        for book, tongues in tongue_samples(105, 20):
            for one in tongues[4:]:
                form = form_of(book, one)
                made, erase, _ = form
                sorts = sorts_matched(book, form)
                for other in tongues:
                    told = lifted(book, form, other)
                    if other[0] == "walker":
                        rules = [(rule[0], con) + rule[2:] for rule in other[2] for con in range(len(erase))
                                 if erase[con] == rule[1]]
                        self.same(told, ("walker", other[1], tuple(sorted(rules))))
                    else:
                        self.same(told, (other[0], tuple([other[1][sort] for sort in sorts]),
                                         tuple([other[2][con] for con in erase])))

    def test_edges(self):
        none = (EMPTY, (), ("pieces", (), ()))
        self.same(lifted(NEST, none, WALK), ("walker", 1, ()))
        self.same(lifted(NEST, none, ("walker", 5, WALK[2])), ("walker", 5, ()))
        self.same(lifted(NEST, none, SPLIT), ("pieces", (), ()))
        self.same(lifted(NEST, none, MEAN), ("functions", (), ()))
        self.same(lifted(NEST, none, NET), ("webs", (), ()))
        # Two constructors with one number in erase, and sorts matched alike.
        made = (3, (0, 2), ((0, (1,)), (1, ()), (2, (1,)), (1, (1,)), (1, ())))
        form = (made, (0, 2, 0, 1, 2), ("pieces", (1, 1, 1), ((((0, 0),),), ((),), (((0, 0),),), (((0, 0),),), ((),))))
        self.same(lifted(NEST, form, HALT),
                  ("walker", 1, ((0, 0, 0, (), 1, 0), (0, 0, 1, (), 0, 0), (0, 1, 0, (), 0, 0), (0, 2, 0, (), 1, 0),
                                 (0, 2, 1, (), 0, 0), (0, 4, 0, (), 0, 0))))
        self.same(lifted(NEST, form, SPLIT)[1], (1, 2, 1))

    def test_parameters(self):
        form = (NEST, (0, 1, 2), SPLIT)
        untrimmed = ((NO_CONS, (), ("pieces", (1, 1), ())), ((3,) + NEST[1:], (0, 1, 2), ("pieces", (1, 2, 1), SPLIT[2])),
                     ((2, (), NEST[2]), (0, 1, 2), SPLIT))
        over = ((NEST, (0, 1, 3), SPLIT), (DEAD, (0, 2, 1), ("pieces", (1, 1, 1), ((((0, 0),),), ((),), ((),)))),
                ((2, (0, 1), NEST[2]), (0, 1, 2), ("pieces", (1, 1), ((((0, 0),),), (((0, 0),),), ((),)))))
        for tongue in (SPLIT, MEAN, WALK, NET):
            self.asks(lifted, {"book": NEST, "form": form, "tongue": tongue},
                      {"book": BAD_BOOKS, "form": BAD_FORMS + untrimmed + over, "tongue": BAD_TONGUES})


class Blocks(Asking):

    def test_example(self):
        self.same(says(block_book(), block_tongue(2), (0, 1, 2)), ("a", "b", "a", "b"))

    def test_blocks(self):
        self.same(block_book(), NEST)
        for width in range(1, 13):
            tongue = block_tongue(width)
            self.same(lets_pieces(NEST, tongue), width)
            self.same(tongue[2][0], (tuple([(0, piece) for piece in range(width)]),))
            self.same(tongue[2][1], tuple([("a", (0, piece), "b") for piece in range(width)]))
            self.same(tongue[2][2], ((),) * width)
            self.same(block_tongue(width=width), tongue)
            for many in range(4):
                due = (("a",) * many + ("b",) * many) * width
                self.same(says(NEST, tongue, (0,) + (1,) * many + (2,)), due)
            self.same(one_width(block_book(), tongue), (width, width, 2 * width))

    def test_each_way(self):
        for width in (1, 2, 5, 12):
            for way in WAYS:
                made, erase, told = led(block_book(), block_tongue(width), way)
                self.same(one_width(made, told), (width, width, 2 * width))
                tree = (erase.index(0),) + (erase.index(1),) * 9 + (erase.index(2),)
                self.same(says(made, told, tree), (("a",) * 9 + ("b",) * 9) * width)

    def test_parameters(self):
        for width in (0, 13, -1, True, False, None, "2", (2,), [2], 10 ** 59):
            self.not_usable("width", block_tongue, width)
            self.not_usable("width", block_tongue, width=width)


class FourKids(Asking):

    def test_led(self):
        pieces = ("pieces", (1, 1), ((((3, 0), "m", (1, 0), (0, 0), (2, 0)),), ((),), (("x", "y"),),
                                     (((1, 0), (0, 0)),)))
        for tongue in (pieces, functions_of(FOUR, pieces), walker_of(FOUR, pieces), webs_of(FOUR, pieces)):
            for way in WAYS:
                made, erase, told = led(FOUR, tongue, way)
                for tree in start_trees(made, 7)[:60]:
                    due = says(FOUR, pieces, tuple([erase[con] for con in tree]))
                    self.same(says(made, told, tree), due)


if __name__ == "__main__":
    unittest.main()
