"""Items of forms by machines, and meets [77], [78], [82], G2, G9."""

import itertools
import random
import unittest

from everytongue.erasing import erased, made_pieces
from everytongue.formchecker import is_form, lets_form
from everytongue.items import items_made, items_of
from everytongue.machines import beginning_machine, both, led_to, takes, text_machine, without_pairs
from everytongue.making import form_of
from everytongue.meets import form_words, meet
from everytongue.patterns import pattern_machine
from everytongue.saying import texts_said
from everytongue.treecounts import count_trees, size_counts
from everytongue.trimming import trimmed
from asking import Asking
from samples import (DEAD, EMPTY, FOUR, NEST, NO_CONS, NO_STARTS, PAIRS, SPLIT, random_book, random_pieces, slow_kids,
                     slow_texts, start_trees, trees_by_size)
from waysamples import BAD_FORMS, BAD_MACHINES, MACHINE, random_machine, tongue_samples

FORM = (NEST, (0, 1, 2), SPLIT)
# Texts of "x", each with all its binary trees.
BINARY = (PAIRS, (0, 1), ("pieces", (1,), ((("x",),), (((0, 0), (1, 0)),))))


def form_samples(seed, many, words=("a", "b"), width=3):
    """Forms whose made may be untrimmed, each with a machine."""
    rng = random.Random(seed)
    while many:
        book = random_book(rng, most_kids=rng.choice((2, 3, 4)))
        if len(start_trees(book, 4)) < 2 and rng.random() < 0.9:
            continue
        many -= 1
        pieces = random_pieces(rng, book, width=width, words=words)
        erase = tuple(range(len(book[2])))
        machine = random_machine(rng, states=4, words=words, full=rng.choice((0.75, 1)))
        if rng.random() < 0.3:
            machine = text_machine(tuple([rng.choice(words) for _ in range(rng.randint(0, 3))]))
        yield (book, erase, pieces), machine


def slow_items(machine, row):
    """All items along whose spans these texts lead."""
    rows = []
    for text in row:
        spans = [(state, led_to(machine, state, text)) for state in range(machine[0])]
        rows.append([span for span in spans if span[1] != -1])
    return set(itertools.product(*rows))


class ItemsMade(Asking):

    def slow_made(self, form, machine, con, items):
        """Word for word as in [77]."""
        rows = []
        for piece in form[2][2][con]:
            spans = []
            for first in range(machine[0]):
                state = first
                for item in piece:
                    if state == -1:
                        break
                    if isinstance(item, str):
                        state = led_to(machine, state, (item,))
                    else:
                        start, end = items[item[0]][item[1]]
                        state = end if state == start else -1
                if state != -1:
                    spans.append((first, state))
            rows.append(spans)
        return tuple(sorted(set(itertools.product(*rows))))

    def test_any_items(self):
        rng = random.Random(130)
        many = 0
        for form, machine in form_samples(130, 150):
            book, _, pieces = form
            for con, (_, kids) in enumerate(book[2]):
                for _ in range(4):
                    items = tuple([tuple([(rng.randrange(machine[0]), rng.randrange(machine[0]))
                                          for _ in range(pieces[1][kid])]) for kid in kids])
                    told = items_made(form, machine, con, items)
                    many += len(told)
                    self.same(told, self.slow_made(form, machine, con, items))
        self.assertTrue(many > 300, many)

    def test_trees(self):
        """Of items of the kids' texts those of the tree's texts are made."""
        for form, machine in form_samples(131, 60):
            book, _, pieces = form
            for rows in trees_by_size(book, 4):
                for tree in [tree for row in rows for tree in row][:8]:
                    found = set()
                    kids = [slow_items(machine, slow_texts(book, pieces, kid)) for kid in slow_kids(book, tree)]
                    for items in itertools.product(*kids):
                        found |= set(items_made(form, machine, tree[0], items))
                    self.assertEqual(found, slow_items(machine, slow_texts(book, pieces, tree)))

    def test_edges(self):
        # An empty piece leads from each state to itself; a word as the machine does.
        self.same(items_made(FORM, MACHINE, 2, ()), tuple(itertools.product([(0, 0), (1, 1), (2, 2)], repeat=2)))
        self.same(items_made(FORM, MACHINE, 0, (((0, 1), (1, 2)),)), (((0, 2),),))
        self.same(items_made(FORM, MACHINE, 0, (((0, 1), (2, 2)),)), ())
        # Items that lead where no text leads.
        self.same(items_made(FORM, MACHINE, 1, (((1, 0), (2, 0)),)), (((0, 0), (2, 0)),))
        self.same(items_made(FORM, MACHINE, 1, (((0, 0), (0, 0)),)), ())

    def test_parameters(self):
        items = (((0, 1), (1, 2)),)
        bad = (None, (), [((0, 1), (1, 2))], (((0, 1),),), (((0, 1), (1, 2)),) * 2, (((0, 1), (1, 3)),), (((0, 1), (1, -1)),),
               (((0, 1), (True, 2)),), (((0, 1), (1, 2), (0, 0)),), (((0, 1), [1, 2]),), ([(0, 1), (1, 2)],), (((0, 1), 1),),
               (None,), 0, "ab", (((0, 1), (1,)),), (((0, 1), (1, 2, 0)),), (((0, 1), None),))
        forms = BAD_FORMS + ((NEST, (0, 0, 0), SPLIT),)
        self.asks(items_made, {"form": FORM, "machine": MACHINE, "con": 1, "items": items},
                  {"form": forms, "machine": BAD_MACHINES, "con": (3, -1, True, None, "1"), "items": bad})
        self.not_usable("items", items_made, FORM, MACHINE, 2, items)


class ItemsOf(Asking):

    def closed(self, form, machine):
        """All items, by making more till there are no more."""
        book = form[0]
        found = [set() for _ in range(book[0])]
        while True:
            many = sum([len(row) for row in found])
            for con, (result, kids) in enumerate(book[2]):
                for items in list(itertools.product(*[list(found[kid]) for kid in kids])):
                    found[result] |= set(items_made(form, machine, con, items))
            if many == sum([len(row) for row in found]):
                return tuple([tuple(sorted(row)) for row in found])

    def test_all_items(self):
        compared, items = 0, 0
        for form, machine in form_samples(132, 200):
            told = items_of(form, machine)
            book, _, pieces = form
            self.assertEqual(len(told), book[0])
            for sort, rows in enumerate(trees_by_size(book, 5)):
                due = set()
                for tree in [tree for row in rows for tree in row][:30]:
                    due |= slow_items(machine, slow_texts(book, pieces, tree))
                self.assertTrue(due <= set(told[sort]))
                self.same(told[sort], tuple(sorted(set(told[sort]))))
                self.assertTrue(all([len(item) == pieces[1][sort] for item in told[sort]]))
            ways = 0
            for _, kids in book[2]:
                many = 1
                for kid in kids:
                    many *= len(told[kid])
                ways += many
            if ways < 4000:
                compared += 1
                items += sum([len(row) for row in told])
                self.same(told, self.closed(form, machine))
        self.assertTrue(compared > 120 and items > 1000, (compared, items))

    def test_forms_of_all_ways(self):
        for book, tongues in tongue_samples(133, 25):
            for tongue in tongues[3:]:
                form = form_of(book, tongue)
                text = ("a", "b", "a")
                told = items_of(form, text_machine(text))
                for start in form[0][1]:
                    found = [tree for tree in start_trees(form[0], 4) if texts_said(form[0], form[2], tree) == (text,)]
                    if any([form[0][2][tree[0]][0] == start for tree in found]):
                        self.assertIn(((0, 3),), told[start])

    def test_edges(self):
        self.same(items_of((EMPTY, (), ("pieces", (), ())), MACHINE), ())
        self.same(items_of((NO_CONS, (), ("pieces", (1, 3), ())), MACHINE), ((), ()))
        # Sorts that are not used, and such without trees; a word that the machine does not know.
        pieces = ("pieces", (1, 1, 1), ((("q", (0, 0)),), (("a",),), (((0, 0), (1, 0)),)))
        self.same(items_of((DEAD, (0, 1, 2), pieces), MACHINE), ((), (((0, 1),), ((1, 2),)), ()))
        # Without finals or rows.
        self.same(items_of(FORM, (2, (), ())), ((((0, 0),), ((1, 1),)), tuple(itertools.product([(0, 0), (1, 1)], repeat=2))))
        # Kids that say nothing; a constructor with four of them, one piece each.
        silent = ("pieces", (1, 1), ((((3, 0), (1, 0), (0, 0), (2, 0)),), ((),), ((),), (((1, 0), (0, 0)),)))
        spans = tuple([((k, k),) for k in range(3)])
        self.same(items_of((FOUR, (0, 1, 2, 3), silent), MACHINE), (spans, spans))

    def test_slots_of_one_kid_side_by_side(self):
        # Pieces of one kid meet, in any sequence; and pieces of a kid with itself.
        book = (2, (0,), ((0, (1,)), (1, ()), (1, (1, 1))))
        rows = ((((0, 1), (0, 0)),), (("a",), ("b",)), (((0, 0), (1, 0)), ((1, 1), (0, 1))))
        form = (book, (0, 1, 2), ("pieces", (1, 2), rows))
        for text in (("b", "a"), ("b", "b", "a", "a"), ("a", "b"), ("b", "a", "a")):
            told = items_of(form, text_machine(text))
            self.same(told, self.closed(form, text_machine(text)))
            self.assertEqual(((0, len(text)),) in told[0], text in (("b", "a"), ("b", "b", "a", "a")))

    def test_many_items(self):
        """Thousands of items: of pairs of pieces, and of kids of four."""
        # Two pieces that each grow in parallel by all words: (p, q), (r, s) with as many steps.
        machine = (20, (19,), tuple([(k, "a", k + 1) for k in range(19)]))
        book = (2, (0,), ((0, (1,)), (1, ()), (1, (1, 1))))
        rows = ((((0, 0), (0, 1)),), (("a",), ("a",)), (((0, 0), (1, 0)), ((0, 1), (1, 1))))
        told = items_of((book, (0, 1, 2), ("pieces", (1, 2), rows)), machine)
        due = [((p, p + n), (r, r + n)) for n in range(1, 20) for p in range(20 - n) for r in range(20 - n)]
        self.same(told[1], tuple(sorted(due)))
        self.same(told[0], tuple(sorted([((p, p + 2 * n),) for n in range(1, 10) for p in range(20 - 2 * n)])))
        # Each piece by itself: all pairs of spans.
        rows = ((((0, 0), (0, 1)),), ((), ()), (((0, 0), (1, 0)), ((0, 1), (1, 1))), (("a", (0, 0)), ((0, 1),)),
                (((0, 0),), ((0, 1), "a")))
        book = (2, (0,), book[2] + ((1, (1,)), (1, (1,))))
        machine = (13, (12,), machine[2][:12])
        told = items_of((book, (0, 1, 2, 3, 4), ("pieces", (1, 2), rows)), machine)
        spans = [(p, q) for p in range(13) for q in range(p, 13)]
        self.same(told[1], tuple(itertools.product(spans, repeat=2)))
        # Four kids at once.
        book = (1, (0,), ((0, ()), (0, (0, 0, 0, 0)), (0, (0, 0, 0))))
        rows = ((("a",),), (((0, 0), (1, 0), (2, 0), (3, 0)),), (((2, 0), (1, 0), (0, 0)),))
        machine = text_machine(("a",) * 40)
        told = items_of((book, (0, 1, 2), ("pieces", (1,), rows)), machine)
        self.same(told, (tuple([((p, q),) for p in range(41) for q in range(p + 1, 41) if q - p != 2]),))

    def test_parameters(self):
        forms = BAD_FORMS + ((NEST, (0, 0, 0), SPLIT),)
        self.asks(items_of, {"form": FORM, "machine": MACHINE}, {"form": forms, "machine": BAD_MACHINES})


class Meets(Asking):

    def check(self, form, machine, most):
        """The start trees of the meet are one to one with those of form whose text the machine takes."""
        told = meet(form, machine)
        made, erase, said = told
        self.assertIs(is_form(told), True)
        self.same(trimmed(made), made)
        due = []
        for tree in start_trees(form[0], most):
            text = slow_texts(form[0], form[2], tree)[0]
            if takes(machine, text):
                due.append((erased(form, tree), text))
        found = [(erased(told, tree), texts_said(made, said, tree)[0]) for tree in start_trees(made, most)]
        self.assertEqual(sorted(found), sorted(due))
        return len(due)

    def test_meets(self):
        trees = 0
        for form, machine in form_samples(134, 250):
            trees += self.check(form, machine, 5)
            lets_form(form[0], meet(form, machine))
        self.assertTrue(trees > 1500, trees)

    def test_erased(self):
        """It erases to the same trees as form, and is a form over each book that form is over."""
        for book, tongues in tongue_samples(135, 25):
            for tongue in tongues[3:]:
                form = form_of(book, tongue)
                for machine in (text_machine(("a", "b")), beginning_machine(("a",), ("a", "b")),
                                without_pairs(("a", "b"), (("b", "b"),)), pattern_machine(("again", ("any",)), ("b",))):
                    self.check(form, machine, 4)
                    lets_form(book, meet(form, machine))
        # Unlike trees that erase alike stay unlike.
        twice = (PAIRS, (0, 1), ("pieces", (1,), ((("x",),), (((1, 0), (0, 0)),))))
        self.assertEqual(self.check(twice, text_machine(("x",) * 4), 7), 5)
        alike = ((1, (0,), ((0, ()), (0, ()), (0, (0,)))), (5, 5, 3), ("pieces", (1,), ((("x",),), (("x",),), (((0, 0),),))))
        told = meet(alike, text_machine(("x",)))
        self.assertEqual(sorted(told[1]), [3, 5, 5])
        self.assertEqual(size_counts(told[0], told[0][1][0], 4), (0, 2, 2, 2, 2))

    def test_nest(self):
        for many in (0, 1, 5):
            text = ("a",) * many + ("b",) * many
            told = meet(FORM, text_machine(text))
            self.same(count_trees(told[0]), 1)
            self.assertEqual([erased(told, tree) for tree in start_trees(told[0], many + 2)], [(0,) + (1,) * many + (2,)])
        self.same(meet(FORM, text_machine(("a",))), (EMPTY, (), ("pieces", (), ())))
        # Endlessly many.
        self.assertIsNone(count_trees(meet(FORM, (1, (0,), ((0, "a", 0), (0, "b", 0))))[0]))

    def test_counts(self):
        catalan = [1]
        for n in range(20):
            catalan.append(sum([catalan[k] * catalan[n - k] for k in range(n + 1)]))
        for many in (1, 2, 7, 16):
            told = meet(BINARY, text_machine(("x",) * many))
            self.same(count_trees(told[0]), catalan[many - 1])

    def test_edges(self):
        none = (EMPTY, (), ("pieces", (), ()))
        self.same(meet(none, MACHINE), none)
        self.same(meet((NO_CONS, (), ("pieces", (1, 3), ())), MACHINE), none)
        self.same(meet((NO_STARTS, (0, 1), ("pieces", (1, 1), ((((0, 0),),), (("a",),)))), MACHINE), none)
        self.same(meet(FORM, (3, (), MACHINE[2])), none)
        self.same(meet(FORM, (1, (), ())), none)
        # The text () is taken; finals to which no text leads.
        told = meet(FORM, (2, (0, 1), ()))
        self.assertEqual([erased(told, tree) for tree in start_trees(told[0], 5)], [(0, 2)])
        pieces = ("pieces", (1, 1, 1), ((((0, 0),),), (("a",),), (((0, 0), (1, 0)),)))
        self.assertEqual(self.check((DEAD, (0, 1, 2), pieces), (2, (1,), ((0, "a", 1),)), 4), 1)

    def test_both(self):
        """The meet of a meet is the meet with both machines."""
        rng = random.Random(136)
        for form, one in form_samples(136, 80):
            other = random_machine(rng, states=3)
            two = meet(meet(form, one), other)
            once = meet(form, both(one, other))
            told = []
            for made, erase, said in (two, once):
                told.append(sorted([(tuple([erase[con] for con in tree]), texts_said(made, said, tree))
                                    for tree in start_trees(made, 4)]))
            self.assertEqual(told[0], told[1])

    def test_items_are_shown(self):
        """Each sort of the meet is an item that comes at a start tree whose text is taken."""
        for form, machine in form_samples(137, 60):
            items = items_of(form, machine)
            made = meet(form, machine)[0]
            self.assertTrue(made[0] <= sum([len(row) for row in items]))

    def test_large(self):
        # Some thousand items, and texts of all words: each tree once.
        book = (2, (0,), ((0, (1,)), (1, ()), (1, (1, 1))))
        rows = ((((0, 0), (0, 1)),), (("a",), ("b",)), (((0, 0), (1, 0)), ((0, 1), (1, 1))))
        form = (book, (0, 1, 2), ("pieces", (1, 2), rows))
        told = meet(form, text_machine(("a",) * 12 + ("b",) * 12))
        self.same(count_trees(told[0]), 58786)
        machine = without_pairs(("x",), ())
        self.assertIsNone(count_trees(meet(BINARY, machine)[0]))
        deep = made_pieces(NEST, SPLIT)
        told = meet(deep, text_machine(("a",) * 18 + ("b",) * 18))
        self.assertEqual(start_trees(told[0], 20), [start_trees(told[0], 20)[0]])

    def test_parameters(self):
        forms = BAD_FORMS + ((NEST, (0, 0, 0), SPLIT),)
        self.asks(meet, {"form": FORM, "machine": MACHINE}, {"form": forms, "machine": BAD_MACHINES})
        self.asks(form_words, {"form": FORM}, {"form": forms})

    def test_form_words(self):
        self.same(form_words(FORM), ("a", "b"))
        self.same(form_words((EMPTY, (), ("pieces", (), ()))), ())
        # Words of constructors that are not used, too.
        book = (2, (0,), ((0, ()), (1, ())))
        self.same(form_words((book, (7, 7), ("pieces", (1, 2), ((("b", "a"),), (("c",), ("B", "b")))))),
                  ("B", "a", "b", "c"))


if __name__ == "__main__":
    unittest.main()
