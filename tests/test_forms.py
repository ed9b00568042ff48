"""Forms: checked, erased, trimmed, reordered [29] to [32]."""

import random
import unittest

from everytongue.erasing import erased, form_through, made_pieces, sorts_matched, trimmed_form
from everytongue.formchecker import is_form, lets_form
from everytongue.piecechecker import lets_pieces
from everytongue.reordering import identity_form, reordered
from everytongue.saying import texts_said
from everytongue.trimming import trimmed, used_cons, used_sorts
from asking import Asking
from samples import (BAD_BOOKS, BAD_PIECES, DEAD, EMPTY, NEST, NO_CONS, ODD, PAIRS, SPLIT, random_book, random_pieces,
                     random_tongues, slow_texts, start_trees, trees_by_size)

FORM = (NEST, (0, 1, 2), SPLIT)
LEAF = ((2, (0,), ((1, ()),)), (2,), ("pieces", (1, 1), ((("a",),),)))
BAD_FORMS = (None, (), FORM[:2], list(FORM), (NEST, (0, 1), SPLIT), (NEST, (0, 1, True), SPLIT), (PAIRS, (0, 1), SPLIT),
             (NEST, (0, 0, 0), SPLIT), (NEST, [0, 1, 2], SPLIT))


def split_book(rng, book):
    """A form over the book: its sorts and constructors stand there once or twice."""
    copies = [(sort, k) for sort in range(book[0]) for k in range(rng.randint(1, 2))]
    starts = tuple([k for k, (sort, _) in enumerate(copies) if sort in book[1] and rng.random() < 0.7])
    cons, erase = [], []
    for con, (result, kids) in enumerate(book[2]):
        for _ in range(rng.randint(0, 2)):
            pick = [rng.choice([k for k, (own, _) in enumerate(copies) if own == sort]) for sort in (result,) + kids]
            cons.append((pick[0], tuple(pick[1:])))
            erase.append(con)
    made = (len(copies), starts, tuple(cons))
    return made, tuple(erase), random_pieces(rng, made)


class LetsForm(Asking):

    def test_example(self):
        self.invalid("con", 1, lets_form, NEST, (NEST, (0, 2, 2), SPLIT))

    def test_forms(self):
        self.assertEqual(lets_form(NEST, FORM), 3)
        self.assertEqual(lets_form(thing=LEAF, book=NEST), 1)
        self.same(lets_form(NEST, (EMPTY, (), ("pieces", (), ()))), 0)
        self.same(lets_form(EMPTY, (NO_CONS, (), ("pieces", (1, 2), ()))), 0)
        rng = random.Random(29)
        for _ in range(200):
            book = random_book(rng)
            form = split_book(rng, book)
            self.assertEqual(lets_form(book, form), len(form[1]))
            self.assertIs(is_form(form), True)

    def test_shape(self):
        for thing in ODD + (FORM[:2], FORM + (1,), list(FORM), "abc"):
            self.invalid("shape", -1, lets_form, NEST, thing)
            self.assertIs(is_form(thing), False)

    def test_made(self):
        for made in BAD_BOOKS + ((2, (0,), ((0, (5,)),)), [], "x"):
            self.invalid("made", -1, lets_form, NEST, (made, (0, 1, 2), SPLIT))
            self.invalid("made", -1, lets_form, NEST, (made, None, None))
            self.assertIs(is_form((made, (0, 1, 2), SPLIT)), False)

    def test_said(self):
        for said in BAD_PIECES + (("walker", 1, ()), ("pieces", (), ()), SPLIT[:2] + (SPLIT[2][:2],)):
            self.invalid("said", -1, lets_form, NEST, (NEST, (0, 1, 2), said))
            self.invalid("said", -1, lets_form, NEST, (NEST, None, said))
            self.assertIs(is_form((NEST, (0, 1, 2), said)), False)
        self.invalid("said", -1, lets_form, NEST, ((10 ** 59, (), ()), (), ("pieces", (), ())))

    def test_erase(self):
        for erase in (None, [0, 1, 2], (0, 1), (0, 1, 2, 2), (0, 1, -1), (0, True, 2), (0, "1", 2), (0, None, 2), (),
                      (0, (1,), 2), "012", 3):
            self.invalid("erase", -1, lets_form, NEST, (NEST, erase, SPLIT))
            self.assertIs(is_form((NEST, erase, SPLIT)), False)

    def test_con(self):
        for erase, at in (((0, 1, 3), 2), ((0, 3, 3), 1), ((10 ** 59, 1, 2), 0), ((0, 1, 1), 2), ((2, 1, 2), 0)):
            self.invalid("con", at, lets_form, NEST, (NEST, erase, SPLIT))
        self.invalid("con", 0, lets_form, EMPTY, FORM)

    def test_sorts(self):
        # Sort 1 of made stands for sort 1, then, in constructor 2, for sort 0.
        book = (2, (0,), ((0, (1,)), (1, (1,)), (1, ()), (0, ()), (0, (0,))))
        self.invalid("sorts", 2, lets_form, book, (NEST, (0, 1, 3), SPLIT))
        self.invalid("sorts", 1, lets_form, book, (NEST, (0, 4, 3), SPLIT))
        self.invalid("sorts", 1, lets_form, book, (NEST, (0, 0, 2), SPLIT))
        # Within one constructor.
        self.invalid("sorts", 0, lets_form, book, ((1, (0,), ((0, (0,)),)), (0,), ("pieces", (1,), ((((0, 0),),),))))
        pair = (2, (0,), ((0, (0, 1)),))
        same = ((2, (0,), ((0, (1, 1)),)), (0,), ("pieces", (1, 1), ((((0, 0), (1, 0)),),)))
        self.invalid("sorts", 0, lets_form, pair, same)
        # The first fault of the first constructor.
        self.invalid("sorts", 1, lets_form, book, (NEST, (0, 0, 9), SPLIT))
        self.invalid("con", 1, lets_form, book, (NEST, (4, 9, 2), SPLIT))
        # Several sorts may be matched with the same one.
        self.assertEqual(lets_form(PAIRS, ((3, (0, 2), ((0, (1, 2)), (1, ()), (2, (1, 1)))), (1, 0, 1),
                                           ("pieces", (1, 2, 1), (
                                               (((0, 0), (1, 0), (0, 1)),), (("x",), ()),
                                               (((0, 1), (0, 0), (1, 0), (1, 1)),))))), 3)

    def test_start(self):
        book = (3, (1,), ((0, ()), (1, ()), (2, ())))
        said = ("pieces", (1, 1, 1), (((),), ((),), ((),)))
        self.invalid("start", 0, lets_form, book, ((3, (0, 2), book[2]), (0, 1, 2), said))
        self.invalid("start", 2, lets_form, book, ((3, (1, 2), book[2]), (0, 1, 2), said))
        self.invalid("start", 2, lets_form, book, ((3, (0, 2), book[2]), (1, 1, 2), said))
        self.assertEqual(lets_form(book, ((3, (0, 1, 2), book[2]), (1, 1, 1), said)), 3)
        # A sort that stands in no constructor is matched with nothing.
        self.assertEqual(lets_form(book, LEAF[:1] + ((0,),) + LEAF[2:]), 1)

    def test_is_form(self):
        self.assertIs(is_form(FORM), True)
        self.assertIs(is_form(thing=LEAF), True)
        # Over some book: only the numbers of kids matter.
        self.assertIs(is_form((NEST, (7, 10 ** 59, 2), SPLIT)), True)
        self.assertIs(is_form((NEST, (7, 7, 2), SPLIT)), True)
        self.assertIs(is_form((NEST, (7, 2, 2), SPLIT)), False)
        self.assertIs(is_form((NEST, (7, 2, 7), SPLIT)), False)
        self.assertIs(is_form((EMPTY, (), ("pieces", (), ()))), True)

    def test_book_first(self):
        for book in BAD_BOOKS:
            self.not_usable("book", lets_form, book, FORM)
            self.not_usable("book", lets_form, book, None)


class Erasing(Asking):

    def forms(self, seed, many):
        rng = random.Random(seed)
        for _ in range(many):
            book = random_book(rng)
            yield book, split_book(rng, book)

    def test_example(self):
        self.assertEqual(sorts_matched(NEST, LEAF), (-1, 1))

    def test_erased(self):
        self.same(erased(LEAF, (0,)), (2,))
        self.same(erased(LEAF, (0, 0, 0)), (2, 2, 2))
        self.same(erased(LEAF, ()), ())
        self.same(erased((NEST, (7, 10 ** 59, 2), SPLIT), (2, 1, 0)), (2, 10 ** 59, 7))
        self.asks(erased, {"form": FORM, "tree": (0, 1, 2)},
                  {"form": BAD_FORMS, "tree": (None, [0], (3,), (-1,), (True,), (0, None), "0", 0, ((0,),))})

    def test_sorts_matched(self):
        for book, form in self.forms(30, 200):
            found = [set() for _ in range(form[0][0])]
            for con, (result, kids) in zip(form[1], form[0][2]):
                for sort, own in zip((result,) + kids, (book[2][con][0],) + book[2][con][1]):
                    found[sort].add(own)
            self.same(sorts_matched(book, form), tuple([(list(row) + [-1])[0] for row in found]))
        over = BAD_FORMS + ((NEST, (0, 1, 3), SPLIT), (NEST, (1, 1, 2), SPLIT))
        self.asks(sorts_matched, {"book": NEST, "form": FORM}, {"book": BAD_BOOKS, "form": over})
        self.not_usable("form", sorts_matched, PAIRS, FORM)

    def test_trimmed_form(self):
        for book, form in self.forms(31, 300):
            less = trimmed_form(form)
            lets_form(book, less)
            self.same(less[0], trimmed(form[0]))
            cons, sorts = used_cons(form[0]), used_sorts(form[0])
            self.same(less[1], tuple([form[1][con] for con in cons]))
            self.same(less[2], ("pieces", tuple([form[2][1][sort] for sort in sorts]),
                                tuple([form[2][2][con] for con in cons])))
            told = [(erased(less, tree), texts_said(less[0], less[2], tree)) for tree in start_trees(less[0], 4)]
            due = [(erased(form, tree), slow_texts(form[0], form[2], tree)) for tree in start_trees(form[0], 4)]
            self.assertEqual(sorted(told), sorted(due))
            self.same(trimmed_form(less), less)
        self.same(trimmed_form((DEAD, (0, 1, 2), ("pieces", (1, 2, 1), ((((0, 1), (0, 0)),), ((), ("x",)), (
            ((1, 0), (0, 0)), ((1, 1),)))))), ((2, (0,), ((0, (1,)), (1, ()))), (0, 1), (
                "pieces", (1, 2), ((((0, 1), (0, 0)),), ((), ("x",))))))
        self.asks(trimmed_form, {"form": FORM}, {"form": BAD_FORMS})

    def test_made_pieces(self):
        for book, pieces in random_tongues(32, 200):
            form = made_pieces(book, pieces)
            lets_form(book, form)
            self.same(form, trimmed_form(identity_form(book, pieces)))
            self.same((form[0], form[1]), (trimmed(book), used_cons(book)))
            self.same(form[2][2], tuple([pieces[2][con] for con in used_cons(book)]))
            told = {erased(form, tree): texts_said(form[0], form[2], tree) for tree in start_trees(form[0], 5)}
            self.assertEqual(told, {tree: slow_texts(book, pieces, tree) for tree in start_trees(book, 5)})
        self.same(made_pieces(NO_CONS, ("pieces", (1, 2), ())), (EMPTY, (), ("pieces", (), ())))
        self.asks(made_pieces, {"book": NEST, "pieces": SPLIT}, {"book": BAD_BOOKS, "pieces": BAD_PIECES})

    def test_form_through(self):
        rng = random.Random(33)
        for book, form in self.forms(34, 200):
            further = split_book(rng, form[0])
            whole = form_through(form, further)
            lets_form(book, whole)
            self.same(whole, (further[0], tuple([form[1][con] for con in further[1]]), further[2]))
            for tree in start_trees(further[0], 4):
                self.same(erased(whole, tree), erased(form, erased(further, tree)))
        self.asks(form_through, {"form": FORM, "further": LEAF},
                  {"form": BAD_FORMS, "further": BAD_FORMS + ((NEST, (0, 1, 3), SPLIT), (NEST, (1, 1, 2), SPLIT))})


class Reordering(Asking):

    def test_example(self):
        self.assertEqual(reordered(NEST, SPLIT, 1, (1, 0))[2],
                         ((((0, 1), (0, 0)),), (((0, 0), "b"), ("a", (0, 1))), ((), ())))

    def test_reordered(self):
        rng = random.Random(35)
        for book, pieces in random_tongues(36, 200):
            sort = rng.randrange(book[0])
            order = tuple(rng.sample(range(pieces[1][sort]), pieces[1][sort]))
            other = reordered(book, pieces, sort, order)
            lets_pieces(book, other)
            self.assertEqual(other[1], pieces[1])
            for root, rows in enumerate(trees_by_size(book, 4)):
                for tree in [tree for row in rows for tree in row]:
                    texts = list(slow_texts(book, pieces, tree))
                    if root == sort:
                        for j, text in enumerate(slow_texts(book, pieces, tree)):
                            texts[order[j]] = text
                    self.same(texts_said(book, other, tree), tuple(texts))
            back = tuple([order.index(k) for k in range(len(order))])
            self.same(reordered(book, other, sort, back), pieces)

    def test_three(self):
        book = (2, (0,), ((0, (1,)), (1, ()), (1, (1,))))
        pieces = ("pieces", (1, 3), ((((0, 0), (0, 1), (0, 2)),), (("a",), ("b",), ("c",)),
                                     (("x", (0, 2)), ("y", (0, 0)), ("z", (0, 1)))))
        self.same(reordered(book, pieces, 1, (1, 2, 0)),
                  ("pieces", (1, 3), ((((0, 1), (0, 2), (0, 0)),), (("c",), ("a",), ("b",)),
                                      (("z", (0, 2)), ("x", (0, 0)), ("y", (0, 1))))))
        self.same(reordered(book, pieces, 0, (0,)), pieces)

    def test_identity_form(self):
        self.same(identity_form(NEST, SPLIT), FORM)
        self.same(identity_form(EMPTY, ("pieces", (), ())), (EMPTY, (), ("pieces", (), ())))
        self.same(identity_form(DEAD, ("pieces", (1, 1, 1), ((((0, 0),),), ((),), (((0, 0), (1, 0)),))))[:2],
                  (DEAD, (0, 1, 2)))

    def test_parameters(self):
        self.asks(identity_form, {"book": NEST, "pieces": SPLIT}, {"book": BAD_BOOKS, "pieces": BAD_PIECES})
        orders = ((), (0,), (0, 0), (1, 2), (0, 1, 2), (True, 0), [0, 1], None, "01", (1, -1))
        self.asks(reordered, {"book": NEST, "pieces": SPLIT, "sort": 1, "order": (1, 0)},
                  {"book": BAD_BOOKS, "pieces": BAD_PIECES, "sort": (2, -1, True, None, "0"), "order": orders})
        self.not_usable("order", reordered, NEST, SPLIT, 0, (1, 0))


if __name__ == "__main__":
    unittest.main()
