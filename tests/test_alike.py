"""Common forms, bases, where tongues part, and papers that they do nowhere [97] to [102], G11."""

import itertools
import random
import unittest
import unittest.mock

from everytongue.alike import alike, parts_at
from everytongue.alikechecker import lets_alike
from everytongue.common import common_form, pair_digits
from everytongue.erasing import erased
from everytongue.errors import InvalidPaper, TooMuch
from everytongue.formchecker import lets_form
from everytongue.grounds import alike_on
from everytongue.kinds import is_quotient
from everytongue.leading import block_book, block_tongue
from everytongue.leasttrees import first_roots
from everytongue.listing import listed, listed_trees, pair_plans
from everytongue.making import led
from everytongue.renumbering import renumbered, renumbered_tree
from everytongue.saying import texts_said
from everytongue.spaces import Space
from everytongue.speaking import says
from everytongue.states import state_made, state_says
from everytongue.trees import sort_of
from everytongue.trimming import trimmed
from everytongue.twists import twisted, twisted_text
from everytongue.vectors import vector_of, vector_size
from everytongue.within import state_pairs
from asking import Asking
from samples import (BAD_BOOKS, BAD_PIECES, BAD_TREES, EMPTY, MEAN, NEST, NO_CONS, NO_STARTS, PAIRS, SPLIT, WALK, random_book, random_pieces,
                     slow_key, start_trees)
from waysamples import BAD_TONGUES, HALT, NET, slow_says, tongue_samples

SAME, MIRROR = ("same",), ("mirror",)
TWISTS = (SAME, MIRROR, ("recode", (("a", ("b",)), ("b", ("a",)))), ("recode", ()), ("recode", (("a", ()), ("c", ("a", "a")))))
BAD_TWISTS = (None, (), ("same", ()), "same", ["same"], ("recode",), ("recode", (("b", ()), ("a", ()))), ("turn",), True)
NONE = ("walker", 1, ())
FEW_BAD = BAD_TONGUES[:4] + BAD_TONGUES[-3:]


def pairs_of_tongues(seed, many):
    """Books with two tongues each: any ones, such that say the same in other ways, and spoilt ones."""
    rng = random.Random(seed)
    for book, tongues in tongue_samples(seed, many):
        if len(start_trees(book, 6)) > 60:
            continue
        for _ in range(3):
            yield book, rng.choice(tongues), rng.choice(tongues)
        pieces = tongues[0]
        yield book, tongues[3], tongues[5]
        yield book, pieces, tongues[6]
        way = rng.choice(("functions", "walker", "webs"))
        made, _, tongue = led(book, rng.choice(tongues), way)
        if made[0] and len(start_trees(made, 6)) < 60:
            yield made, tongue, random_pieces(rng, made, width=1)
    for one, other in itertools.product((SPLIT, WALK, MEAN, NET, HALT, NONE), repeat=2):
        yield NEST, one, other
    for book in (EMPTY, NO_STARTS, NO_CONS):
        yield book, random_pieces(rng, book), ("walker", 1, ())


def slow_parted(book, one, other, twist, tree):
    """Whether the two part, word for word."""
    text, second = slow_says(book, one, tree), slow_says(book, other, tree)
    if (text is None) != (second is None):
        return True
    return text is not None and text != twisted_text(second, twist)


class Common(Asking):

    def test_listed_trees(self):
        some = 0
        for book, one, other in pairs_of_tongues(190, 50):
            made, erase, said, second = told = common_form(book, one, other)
            self.assertIs(type(told), tuple)
            lets_form(book, (made, erase, said))
            lets_form(book, (made, erase, second))
            self.same(trimmed(made), made)
            trees = start_trees(made, 6)
            due = [tree for tree in start_trees(book, 6)
                   if slow_says(book, one, tree) is not None and slow_says(book, other, tree) is not None]
            form = (made, erase, said)
            self.same(sorted(erased(form, tree) for tree in trees), sorted(due))
            some += len(trees)
            for tree in trees[:20]:
                self.same(texts_said(made, said, tree), (slow_says(book, one, erased(form, tree)),))
                self.same(texts_said(made, second, tree), (slow_says(book, other, erased(form, tree)),))
        self.assertTrue(some > 400, some)

    def test_digits(self):
        self.same(pair_digits(SPLIT, SPLIT), ("a", "b"))
        self.same(pair_digits(SPLIT, ("pieces", (1,), ((("c", "a"),),))), ("a", "b", "c"))
        self.same(pair_digits(("pieces", (), ()), ("pieces", (1, 2), ())), ())
        # Of some book: sorts and kids as widths and slots let.
        for good in (("pieces", (2, 1), ((((0, 1),), ("x", (0, 0))), (((1, 0), (0, 0)),))), ("pieces", (3,), ()),
                     ("pieces", (1,), ((tuple([(k, 0) for k in (2, 0, 3, 1)]),),)),
                     ("pieces", (7, 1), ((((0, 6), (0, 0), (0, 5), (0, 1), (0, 4), (0, 2), (0, 3)),),))):
            self.assertTrue(isinstance(pair_digits(good, SPLIT), tuple))
        # Rows of fewer constructors are those of another book.
        self.same(pair_digits(SPLIT[:2] + (SPLIT[2][:2],), SPLIT[:2] + ((),)), ("a", "b"))
        bad = BAD_PIECES[:4] + BAD_PIECES[5:-1] + (("pieces", (1,), ((((1, 0),),),)), ("pieces", (1,), ((((0, 1),),),)), ("pieces", (), (((),),)),
                                 ("pieces", (1,), (((), ()),)), ("pieces", (1,), ((((0, 0), (0, 0)),),)), ("pieces", (0,), ()),
                                 ("pieces", (1,), ((((0, 0), (0, 1)),),)), ("pieces", (1,), ((tuple([(k, 0) for k in range(5)]),),)),
                                 ("pieces", (1,), (((True,),),)), ("pieces", (1,), ((((0, True), (0, 0)),),)), ("pieces", (1,), ((),)),
                                 ("pieces", (1,), (None,)), ("pieces", (1,), ((None,),)), ("pieces", 1, ()), ("pieces", (1,), 1),
                                 ("pieces", (True,), ()), ("pieces", (1,), ((("",),),)), ("walker", 1, ()), MEAN, (), 3,
                                 ("pieces", (1,), ((((0, -1),),),)), ("pieces", (1, 2), ((((0, 0), (2, 0)),),)))
        self.asks(pair_digits, {"said": SPLIT, "other_said": SPLIT}, {"said": bad, "other_said": bad})

    def test_parameters(self):
        self.asks(common_form, {"book": NEST, "one": SPLIT, "other": WALK},
                  {"book": BAD_BOOKS, "one": BAD_TONGUES, "other": BAD_TONGUES})


def base_trees(made, base):
    """For each sort the trees that the base tells."""
    told = {}

    def tree(sort, place):
        if (sort, place) not in told:
            con, places = base[sort][place]
            told[(sort, place)] = (con,) + sum([tree(kid, at) for kid, at in zip(made[2][con][1], places)], ())
        return told[(sort, place)]
    return [[tree(sort, place) for place in range(len(rows))] for sort, rows in enumerate(base)]


class Listing(Asking):

    def pair_vector(self, common, twist, tree):
        """The pair vector of a tree of the common form."""
        made, _, said, second = common
        turned = twisted(made, second, twist)
        digits = pair_digits(said, turned)
        return vector_of(texts_said(made, said, tree), digits) + vector_of(texts_said(made, turned, tree), digits)

    def test_bases(self):
        rng = random.Random(191)
        rows = 0
        for book, one, other in pairs_of_tongues(191, 40):
            twist = rng.choice(TWISTS)
            common = common_form(book, one, other)
            made = common[0]
            base = listed(book, one, other, twist)
            self.assertEqual(len(base), made[0])
            trees = base_trees(made, base)
            for sort in range(made[0]):
                size = vector_size(common[2][1][sort]) + vector_size(common[3][1][sort])
                space = Space(size)
                for tree in trees[sort]:
                    self.assertEqual(sort_of(made, tree), sort)
                    self.assertTrue(space.take(self.pair_vector(common, twist, tree)))
                self.assertTrue(len(space) < size)
                rows += len(space)
                sorted_book = (made[0], (sort,), made[2])
                for tree in start_trees(sorted_book, 5)[:25]:
                    self.assertTrue(space.parts(self.pair_vector(common, twist, tree)) is not None)
        self.assertTrue(rows > 300, rows)

    def test_edges(self):
        self.same(listed(EMPTY, ("pieces", (), ()), NONE, SAME), ())
        self.same(listed(NEST, SPLIT, NONE, SAME), ())
        self.same(listed(NEST, SPLIT, HALT, MIRROR), (((0, (0,)),), ((1, ()),)))
        # Trees that all say the same.
        quiet = ("pieces", (1,), (((),), (((0, 0), (1, 0)),)))
        self.same(listed(PAIRS, quiet, quiet, SAME), (((0, ()),),))

    def test_parameters(self):
        self.asks(listed, {"book": NEST, "one": SPLIT, "other": WALK, "twist": MIRROR},
                  {"book": BAD_BOOKS, "one": FEW_BAD, "other": FEW_BAD, "twist": BAD_TWISTS})


class Alike(Asking):

    def test_parts_at(self):
        rng = random.Random(192)
        for book, one, other in pairs_of_tongues(192, 30):
            twist = rng.choice(TWISTS)
            for tree in start_trees(book, 5)[:15]:
                self.same(parts_at(book, one, other, twist, tree), slow_parted(book, one, other, twist, tree))
        self.same(parts_at(NEST, NONE, NONE, SAME, (0, 2)), False)
        self.same(parts_at(NEST, SPLIT, NONE, SAME, (0, 2)), True)
        self.same(parts_at(NEST, NONE, SPLIT, SAME, (0, 2)), True)

    def test_listed_trees(self):
        rng = random.Random(193)
        parted, papers, sizes = 0, 0, {}
        for book, one, other in pairs_of_tongues(193, 70):
            for twist in rng.sample(TWISTS, 2):
                told = alike(book, one, other, twist)
                due = [tree for tree in start_trees(book, 6) if slow_parted(book, one, other, twist, tree)]
                self.same(lets_alike(book, one, other, twist, told), told[0])
                if told[0] == "part":
                    parted += 1
                    sizes[len(told[1])] = True
                    self.same(parts_at(book, one, other, twist, told[1]), True)
                    if len(told[1]) <= 6:
                        self.same(told[1], due[0])
                    self.other_word(book, one, other, twist, "alike", told[1])
                else:
                    papers += 1
                    self.paper(book, one, other, twist, told[1])
                    for tree in start_trees(book, 4)[:3]:
                        self.other_word(book, one, other, twist, "part", tree)
                if due:
                    self.assertEqual(told[0], "part")
        self.assertTrue(parted > 150 and papers > 80 and len(sizes) > 3, (parted, papers, sizes))

    def other_word(self, book, one, other, twist, word, thing):
        """No paper with this word is accepted."""
        with self.assertRaises(InvalidPaper):
            lets_alike(book, one, other, twist, (word, thing))

    def paper(self, book, one, other, twist, paper):
        """The paper is as told: pairs, a base and the sums for each constructor."""
        pairs, base, sums = paper
        self.same(pairs, state_pairs(book, one, other))
        self.same(base, listed(book, one, other, twist))
        made = common_form(book, one, other)[0]
        self.assertEqual(len(sums), len(made[2]))
        for (result, kids), told in zip(made[2], sums):
            many = 1
            for kid in kids:
                many *= len(base[kid])
            self.assertEqual(len(told), many)
            for parts in told:
                self.assertEqual(len(parts), len(base[result]))
                self.assertTrue(all([is_quotient(part) for part in parts]))

    def test_blocks(self):
        """The same blocks, led into each other way; and a wider one, which parts."""
        book = block_book()
        for width in range(1, 5):
            tongue = block_tongue(width)
            for way in ("functions", "walker", "webs"):
                made, erase, other = led(book, tongue, way)
                self.same((made, erase), (book, (0, 1, 2)))
                told = alike(book, tongue, other, SAME)
                self.same((told[0], lets_alike(book, tongue, other, SAME, told)), ("alike", "alike"))
                self.same(alike(book, tongue, other, MIRROR), ("part", (0, 1, 2)))
            self.same(alike(book, tongue, block_tongue(width + 1), SAME), ("part", (0, 1, 2)))
        swapped = ("recode", (("a", ("b",)), ("b", ("a",))))
        mirrored = twisted(book, block_tongue(1), MIRROR)
        self.same(alike(book, block_tongue(1), twisted(book, mirrored, swapped), SAME)[0], "alike")
        self.same(alike(book, mirrored, block_tongue(1), MIRROR)[0], "alike")

    def test_late_parting(self):
        """Tongues that part first at a great tree."""
        # A state for each depth up to many: the walker stops there.
        for many in (5, 17):
            rules = []
            for state in range(many):
                rules.append((state, 0, 0, (), 1, 0))
                if state + 1 < many:
                    rules.append((state, 1, 0, ("a",), 1, state + 1))
                rules.append((state, 1, 1, ("b",), 0, 0))
                rules.append((state, 2, 0, (), 0, 0))
            rules.append((0, 0, 1, (), 0, 0))
            walker = ("walker", many, tuple(sorted(set(rules))))
            self.same(alike(NEST, SPLIT, walker, SAME), ("part", (0,) + (1,) * many + (2,)))
        # Words of a chain of sorts are unlike at its end alone.
        chain = tuple([(k, (k + 1,)) for k in range(9)])
        book = (10, (0,), chain + ((9, (9,)), (9, ())))
        rows = (((("x", (0, 0)),),) * 9) + ((((0, 0), "x"),), ((),))
        other = rows[:9] + ((("x", (0, 0)),), ((),))
        self.same(alike(book, ("pieces", (1,) * 10, rows), ("pieces", (1,) * 10, other), SAME)[0], "alike")
        other = rows[:9] + ((("x", (0, 0)),), (("y",),))
        first = rows[:9] + ((((0, 0), "x"),), (("y",),))
        self.same(alike(book, ("pieces", (1,) * 10, first), ("pieces", (1,) * 10, other), SAME),
                  ("part", tuple(range(9)) + (9, 10)))

    def test_numbered_anew(self):
        """Constructors numbered anew: the tongues part as before, at the first tree by the new numbers."""
        rng = random.Random(199)
        unlike = 0
        for _ in range(120):
            book = random_book(rng, sorts=2, cons=9)
            one, other = random_pieces(rng, book, width=2), random_pieces(rng, book, width=2)
            order = list(range(len(book[2])))
            rng.shuffle(order)
            # Constructor k has the number order[k].
            places = [order.index(k) for k in range(len(order))]
            new = renumbered(book, tuple(range(book[0])), tuple(order))
            self.same(new[2], tuple([book[2][k] for k in places]))
            new_one, new_other = [tongue[:2] + (tuple([tongue[2][k] for k in places]),) for tongue in (one, other)]
            told, new_told = alike(book, one, other, SAME), alike(new, new_one, new_other, SAME)
            self.assertEqual(told[0], new_told[0])
            if told[0] == "part":
                self.assertEqual(len(told[1]), len(new_told[1]))
                back = renumbered_tree(book, told[1], tuple(order))
                self.same(parts_at(new, new_one, new_other, SAME, back), True)
                self.assertTrue(slow_key(new, new_told[1]) <= slow_key(new, back))
                unlike += back != new_told[1]
            else:
                self.same(lets_alike(new, new_one, new_other, SAME, new_told), "alike")
        self.assertTrue(unlike > 3, unlike)

    def test_first_of_both_kinds(self):
        """The first tree is told, be it unsaid by one or said otherwise."""
        leaves = (1, (0,), ((0, ()), (0, ()), (0, (0,))))
        words = ("pieces", (1,), ((("a",),), (("b",),), (("c", (0, 0)),)))
        # Constructor 0 is said otherwise, 1 is unsaid.
        walker = ("walker", 1, ((0, 0, 0, ("q",), 0, 0), (0, 2, 0, ("c",), 1, 0), (0, 2, 1, (), 0, 0)))
        self.same(alike(leaves, words, walker, SAME), ("part", (0,)))
        walker = ("walker", 1, ((0, 1, 0, ("q",), 0, 0), (0, 2, 0, ("c",), 1, 0), (0, 2, 1, (), 0, 0)))
        self.same(alike(leaves, words, walker, SAME), ("part", (0,)))
        # Both kinds at size 2: in either order.
        book = (3, (0,), ((0, (1,)), (0, (2,)), (1, ()), (2, ())))
        pieces = ("pieces", (1, 1, 1), ((((0, 0),),), (((0, 0),),), (("a",),), (("b",),)))
        for first, second in ((2, 3), (3, 2)):
            rules = [(0, 0, 0, (), 1, 0), (0, 0, 1, (), 0, 0), (0, 1, 0, (), 1, 0), (0, 1, 1, (), 0, 0), (0, first, 0, ("x",), 0, 0)]
            walker = ("walker", 1, tuple(sorted(rules)))
            for one, other in ((pieces, walker), (walker, pieces)):
                self.same(alike(book, one, other, SAME), ("part", (0, 2)))
        self.same(alike(book, pieces, ("walker", 1, ((0, 0, 0, (), 1, 0), (0, 0, 1, (), 0, 0), (0, 2, 0, ("a",), 0, 0))), SAME),
                  ("part", (1, 3)))

    def test_sizes_at_the_bound(self):
        for many in (999, 1000):
            chain = tuple([(k, (k + 1,)) for k in range(many)])
            book = (many + 1, (0,), chain + ((many, ()),))
            one = ("pieces", (1,) * (many + 1), ((((0, 0),),),) * many + ((("a",),),))
            other = one[:2] + (one[2][:-1] + ((("b",),),),)
            for second in (other, ("walker", 1, ())):
                if many == 999:
                    self.same(alike(book, one, second, SAME), ("part", tuple(range(1000))))
                    self.same(alike_on(book, one, one, second, SAME), tuple(range(1000)))
                    self.same(alike_on(book, second, one, one, SAME), None)
                else:
                    self.refused(TooMuch, ("tree",), alike, book, one, second, SAME)
                    self.refused(TooMuch, ("tree",), alike_on, book, one, one, second, SAME)
            told = alike(book, one, one, SAME)
            self.same((told[0], lets_alike(book, one, one, SAME, told)), ("alike", "alike"))

    def test_great_trees(self):
        """Trees of very many nodes are too much, and are not gone through one by one."""
        # Sorts 1 to 20: all trees have 4 ** 20 nodes, and say nothing.
        chain = tuple([(level, (level + 1,) * 4) for level in range(1, 20)])
        book = (22, (0,), ((0, (1, 21)),) + chain + ((20, ()), (21, ())))
        rows = tuple([(tuple([(kid, 0) for kid in range(len(kids))]),) for _, kids in book[2]])
        one = ("pieces", (1,) * 22, rows[:-1] + ((("a",),),))
        other = ("pieces", (1,) * 22, rows[:-1] + ((("b",),),))
        self.refused(TooMuch, ("tree",), alike, book, one, other, SAME)
        self.refused(TooMuch, ("tree",), alike, book, one, NONE, SAME)
        self.refused(TooMuch, ("tree",), alike_on, book, one, one, other, SAME)
        told = alike(book, one, one, MIRROR)
        self.same((told[0], lets_alike(book, one, one, MIRROR, told)), ("alike", "alike"))
        self.same([len(rows) for rows in told[1][1]], [1] * 22)

    def test_edges(self):
        self.same(alike(EMPTY, ("pieces", (), ()), NONE, MIRROR), ("alike", ((), (), ())))
        self.same(alike(NO_STARTS, ("pieces", (1, 1), ((((0, 0),),), ((),))), NONE, SAME),
                  ("alike", (state_pairs(NO_STARTS, ("pieces", (1, 1), ((((0, 0),),), ((),))), NONE), (), ())))
        self.same(alike(NEST, NONE, NONE, SAME), ("alike", (state_pairs(NEST, NONE, NONE), (), ())))
        self.same(alike(NO_CONS, ("pieces", (1, 3), ()), NONE, SAME), ("alike", (((), ()), (), ())))
        # Words that the twist takes away, so that texts of unlike lengths are alike.
        drop = ("recode", (("b", ()),))
        lone = ("pieces", (1, 1), ((((0, 0),),), (("a", (0, 0)),), ((),)))
        told = alike(NEST, lone, SPLIT, drop)
        self.same((told[0], lets_alike(NEST, lone, SPLIT, drop, told)), ("alike", "alike"))
        self.same(alike(NEST, SPLIT, lone, drop), ("part", (0, 1, 2)))

    def test_parameters(self):
        good = {"book": NEST, "one": SPLIT, "other": WALK, "twist": MIRROR}
        bad = {"book": BAD_BOOKS, "one": BAD_TONGUES, "other": FEW_BAD, "twist": BAD_TWISTS}
        self.asks(alike, good, bad)
        self.asks(parts_at, dict(good, start_tree=(0, 1, 2)), dict(bad, start_tree=BAD_TREES + ((1, 2), (2,))))
        self.asks(lets_alike, dict(good, thing=alike(NEST, SPLIT, WALK, MIRROR)), bad, ("thing",))
        self.asks(alike_on, {"book": NEST, "ground": HALT, "one": SPLIT, "other": WALK, "twist": MIRROR},
                  {"book": BAD_BOOKS, "ground": FEW_BAD, "one": FEW_BAD, "other": FEW_BAD, "twist": BAD_TWISTS})


class AlikeByBases(Alike):
    """The same without a look at small trees: what is asked of bases, then, is asked for each tree."""

    def setUp(self):
        patch = unittest.mock.patch("everytongue.alike.first_small", lambda book, erase, holds: ())
        patch.start()
        self.addCleanup(patch.stop)


class Papers(Asking):

    def setUp(self):
        self.told = alike(NEST, SPLIT, WALK, SAME)[1]

    def check(self, thing):
        """What lets_alike is asked with this paper of the word "alike"."""
        return (lets_alike, NEST, SPLIT, WALK, SAME, ("alike", thing))

    def test_shape_and_tree(self):
        ask = lambda thing: (lets_alike, NEST, SPLIT, WALK, MIRROR, thing)
        self.same(lets_alike(*ask(("part", (0, 1, 2)))[1:]), "part")
        self.same(lets_alike(*ask(("part", (0, 1, 1, 2)))[1:]), "part")
        for thing in (None, (), ("part",), ("part", (0, 1, 2), ()), ["part", (0, 1, 2)], ("parts", (0, 1, 2)), (True, ()), "ab",
                      ((), ()), ("alike",), ("alike", (), ())):
            self.invalid("shape", -1, *ask(thing))
        for tree in BAD_TREES + ((1, 2), (2,), (0, 2)):
            self.invalid("tree", -1, *ask(("part", tree)))

    def test_paper_pairs_and_open(self):
        pairs, base, sums = self.told
        for thing in (None, (), (pairs, base), self.told + ((),), list(self.told), (pairs, base, None), (pairs, list(base), sums),
                      (None, base, sums), 3):
            self.invalid("paper", -1, *self.check(thing))
        for thing in ((), pairs[:1], pairs + ((),), (pairs[0], None), (list(pairs[0]), pairs[1])):
            self.invalid("pairs", -1, *self.check((thing, base, sums)))
        for s in (0, 1):
            for row in ((None,), (((), (1,)),), (((), (0,)), ((), (0,))), (((), (0,)), ((), (-1,))), (((0,), (0,)),), (((), (True,)),)):
                self.invalid("pairs", s, *self.check((pairs[:s] + (row,) + pairs[s + 1:], base, sums)))
        self.invalid("open", 0, *self.check((((), pairs[1]), base, sums)))
        self.invalid("open", 2, *self.check(((pairs[0], ()), base, sums)))
        wide = (((), (-1,)), ((), (0,)))
        self.invalid("start", 0, *self.check(((wide, pairs[1]), base, sums)))
        # More pairs than there are, which no start sort has.
        rows = (pairs[0], (((), (0,)),))
        self.same(lets_alike(*self.check((rows, base, sums))[1:]), "alike")
        # Both unsaid, or both said, may be listed at start sorts.
        told = alike(NEST, WALK, WALK, SAME)[1]
        wide = (((((-1,), (-1,))), (((0,), (0,)))), told[0][1])
        self.same(lets_alike(NEST, WALK, WALK, SAME, ("alike", (wide, told[1], told[2]))), "alike")
        for pair in (((-1,), (0,)), ((0,), (-1,))):
            wide = (tuple(sorted([pair, ((0,), (0,))])), told[0][1])
            self.invalid("start", 0, lets_alike, NEST, WALK, WALK, SAME, ("alike", (wide, told[1], told[2])))

    def test_base_and_ring(self):
        pairs, base, sums = self.told
        self.same([len(rows) for rows in base], [3, 3])
        for thing in ((), base[:1], base + ((),), (base[0], None), (base[0], list(base[1]))):
            self.invalid("base", -1, *self.check((pairs, thing, sums)))
        for s in (0, 1):
            for at in range(3):
                con, places = base[s][at]
                for row in (None, (), (con,), [con, places], (con, list(places)), (3, places), (-1, places), (True, places),
                            (2 * (1 - s), ()) if s == 0 else (0, (0,)), (con, places + (0,)), (con, None), (con, places, 0)):
                    if row == (0, (0,)) and s == 0:
                        continue
                    told = base[s][:at] + (row,) + base[s][at + 1:]
                    self.invalid("base", s, *self.check((pairs, base[:s] + (told,) + base[s + 1:], sums)))
        for place in (3, -1, None, True, "0"):
            self.invalid("base", 0, *self.check((pairs, ((base[0][0], (0, (place,))), base[1]), sums)))
            self.invalid("base", 1, *self.check((pairs, (base[0], (base[1][0], (2, (place,)), base[1][2])), sums)))
        # Rings, also such that a row of sort 0 only leads to.
        self.invalid("ring", 0, *self.check((pairs, (base[0], (base[1][0], (2, (1,)), base[1][2])), sums)))
        self.invalid("ring", 0, *self.check((pairs, (base[0], ((2, (2,)),) + base[1][1:]), sums)))
        self.invalid("ring", 1, *self.check((pairs, ((base[0][0],), (base[1][0], (2, (1,)), base[1][2])), sums)))

    def test_sums(self):
        pairs, base, sums = self.told
        for thing in ((), sums[:2], sums + ((),)):
            self.invalid("sums", -1, *self.check((pairs, base, thing)))
        for k in range(3):
            told = sums[k]
            for rows in (None, list(told), told[:-1], told + told[:1], told[:-1] + (told[-1][:-1],), told[:-1] + (None,),
                         told[:-1] + (told[-1] + ((0, 1),),), told[:-1] + (list(told[-1]),), ((2, 2),) + told[1:],
                         told[:-1] + (((2, 2),) + told[-1][1:],), told[:-1] + ((1,) + told[-1][1:],),
                         told[:-1] + (((True, 1),) + told[-1][1:],)):
                self.invalid("sums", k, *self.check((pairs, base, sums[:k] + (rows,) + sums[k + 1:])))
            for at in range(len(told)):
                for j in range(3):
                    top, bottom = told[at][j]
                    parts = told[at][:j] + ((top + bottom, bottom),) + told[at][j + 1:]
                    rows = told[:at] + (parts,) + told[at + 1:]
                    self.invalid("sum", k, *self.check((pairs, base, sums[:k] + (rows,) + sums[k + 1:])))
        # A sum that is none goes ahead of what is wrong with the next constructor.
        wrong = ((((1, 2),) + sums[0][0][1:],) + sums[0][1:],)
        self.invalid("sum", 0, *self.check((pairs, base, wrong + (None,) + sums[2:])))
        self.invalid("sums", 0, *self.check((pairs, base, (None, None, None))))

    def test_unlike(self):
        """A base and sums that are right, of tongues that part."""
        leaf = (1, (0,), ((0, ()),))
        one, other = ("pieces", (1,), ((("a",),),)), ("pieces", (1,), ((("b",),),))
        told = alike(leaf, one, one, SAME)
        self.invalid("unlike", 0, lets_alike, leaf, one, other, SAME, told)
        self.same(lets_alike(leaf, one, other, ("recode", (("b", ("a",)),)), told), "alike")
        # A base without the only tree of the start sort: its sum is missing.
        self.invalid("sum", 0, lets_alike, leaf, one, other, SAME, ("alike", (told[1][0], ((),), (((),),))))
        # Sorts that are not start sorts may say unlike texts.
        book = (2, (0,), ((0, (1,)), (1, ())))
        first = ("pieces", (1, 2), ((((0, 0), (0, 1)),), (("a",), ("b",))))
        second = ("pieces", (1, 2), ((((0, 1), (0, 0)),), (("b",), ("a",))))
        told = alike(book, first, second, SAME)
        self.same((told[0], lets_alike(book, first, second, SAME, told)), ("alike", "alike"))

    def test_spoilt_at_random(self):
        rng = random.Random(194)
        refused = 0
        for book, one, other in pairs_of_tongues(194, 25):
            told = alike(book, one, other, SAME)
            if told[0] == "part":
                continue
            for _ in range(6):
                thing = self.spoilt(rng, told[1])
                try:
                    lets_alike(book, one, other, SAME, ("alike", thing))
                except InvalidPaper as error:
                    refused += 1
                    self.assertIn(error.word, ("paper", "pairs", "open", "start", "base", "ring", "sums", "sum", "unlike"))
        self.assertTrue(refused > 100, refused)

    def spoilt(self, rng, thing):
        """The paper with something else somewhere in it."""
        if not isinstance(thing, tuple) or not thing or rng.random() < 0.1:
            return rng.choice((0, 1, -1, (), ((),), (0, 1), (1, 2), None, ((), ()), ((0, ()),), 5))
        at = rng.randrange(len(thing))
        if rng.random() < 0.1:
            return thing[:at] + thing[at + 1:]
        return thing[:at] + (self.spoilt(rng, thing[at]),) + thing[at + 1:]


class Grounds(Asking):

    def test_listed_trees(self):
        rng = random.Random(195)
        parted, none = 0, 0
        for book, tongues in tongue_samples(195, 60):
            trees = start_trees(book, 6)
            if len(trees) > 60:
                continue
            for _ in range(4):
                ground, one, other = [rng.choice(tongues) for _ in range(3)]
                twist = rng.choice(TWISTS)
                told = alike_on(book, ground, one, other, twist)
                due = [tree for tree in trees if slow_says(book, ground, tree) is not None
                       and slow_parted(book, one, other, twist, tree)]
                if told is None:
                    none += 1
                    self.same(due, [])
                else:
                    parted += 1
                    self.assertTrue(says(book, ground, told) is not None)
                    self.same(parts_at(book, one, other, twist, told), True)
                    if due:
                        self.same(told, due[0])
                    else:
                        self.assertTrue(len(told) > 6)
        self.assertTrue(parted > 60 and none > 40, (parted, none))

    def test_ground_that_says_all(self):
        rng = random.Random(196)
        for book, one, other in pairs_of_tongues(196, 15):
            ground = random_pieces(rng, book)
            told = alike(book, one, other, SAME)
            self.same(alike_on(book, ground, one, other, SAME), told[1] if told[0] == "part" else None)

    def test_edges(self):
        self.same(alike_on(NEST, NONE, SPLIT, HALT, SAME), None)
        self.same(alike_on(NEST, HALT, SPLIT, WALK, MIRROR), None)
        self.same(alike_on(NEST, SPLIT, SPLIT, WALK, MIRROR), (0, 1, 2))
        self.same(alike_on(EMPTY, NONE, NONE, NONE, SAME), None)
        # Trees come in the order of the book, whatever book the ground's form has.
        book = (2, (0,), ((0, (1, 1)), (1, ()), (1, ()), (1, (1,))))
        one = ("pieces", (1, 1), ((((0, 0), (1, 0)),), (("a",),), (("b",),), (((0, 0), "c"),)))
        other = ("pieces", (1, 1), ((((1, 0), (0, 0)),), (("a",),), (("b",),), (((0, 0), "c"),)))
        trees = sorted(start_trees(book, 6), key=lambda tree: slow_key(book, tree))
        due = [tree for tree in trees if slow_parted(book, one, other, SAME, tree)]
        self.same(alike_on(book, one, one, other, SAME), due[0])
        walker = led(book, one, "walker")[2]
        self.same(alike_on(book, walker, one, other, SAME), due[0])


    def test_one_tree_in_several_sorts(self):
        """The ground's form has the first kid twice, by what the second one is; the order is that of the book's trees."""
        pieces = lambda word, book: ("pieces", (1,) * book[0], tuple([
            (tuple([(kid, 0) for kid in range(len(kids))]) if kids else (word,),) for _, kids in book[2]]))
        for many in (2, 3):
            for order in itertools.permutations(range(1, many + 1)):
                # Constructors 2 and further ones have no kids; the walker comes back from them in these states.
                book = (3, (0,), ((0, (1, 2)), (1, ())) + ((2, ()),) * many)
                rules = [(0, 0, 0, (), 2, 0)] + [(0, 2 + k, 0, (), 0, state) for k, state in enumerate(order)]
                for state in order:
                    rules.extend([(state, 0, 2, (), 1, state), (state, 1, 0, (), 0, state), (state, 0, 1, (), 0, 0)])
                ground = ("walker", many + 1, tuple(sorted(rules)))
                one = pieces("x", book)
                self.same(alike_on(book, ground, one, pieces("y", book), SAME), (0, 1, 2))
                self.same(alike_on(book, ground, one, NONE, SAME), (0, 1, 2))
                # At the least of the second kids they don't part.
                rows = pieces("y", book)[2]
                other = ("pieces", (1,) * 3, rows[:1] + ((("x",),), (("x",),)) + rows[3:])
                self.same(alike_on(book, ground, one, other, SAME), (0, 1, 3))
                halt = [(0, 0, 0, (), 2, 0), (0, 2, 0, ("x",), 0, 1), (1, 0, 2, (), 1, 1), (1, 1, 0, (), 0, 1), (1, 0, 1, ("x",), 0, 0)]
                self.same(alike_on(book, ground, one, ("walker", 2, tuple(sorted(halt))), SAME), (0, 1, 3))


    def test_order_of_trees_as_erased(self):
        """Trees of several sorts that erase alike have one place in the order, whatever numbers they have."""
        cons = ((1, ()), (2, ()), (3, ()), (4, ()), (0, (1, 3)), (0, (2, 4)))
        for erase in ((1, 1, 3, 2, 0, 0), (1, 1, 2, 3, 0, 0)):
            made = (5, (0,), cons)
            first = 5 if erase[2] == 3 else 4
            self.same(first_roots(made, erase)[0], (3, first))
            said = ("pieces", (1,) * 5, ((("x",),),) * 4 + ((((0, 0), (1, 0)),),) * 2)
            common = (made, erase, said, said)
            plans = pair_plans(common, SAME)
            self.same(listed_trees(common, erase, plans, lambda size, start, pair: start)[2], (3, first, (0, 0)))


class GroundsByBases(Grounds):
    """The same without a look at small trees."""

    setUp = AlikeByBases.setUp


class Consequences(Asking):

    def test_states_and_vectors(self):
        """State pairs are what constructors make of pairs, and tell who says something."""
        for book, one, other in pairs_of_tongues(197, 10):
            pairs = state_pairs(book, one, other)
            told = alike(book, one, other, SAME)
            if told[0] != "alike":
                continue
            for con, (result, kids) in enumerate(book[2]):
                for row in itertools.product(*[pairs[kid] for kid in kids]):
                    made = tuple([state_made(book, tongue, con, tuple([pair[k] for pair in row]))
                                  for k, tongue in enumerate((one, other))])
                    self.assertIn(made, pairs[result])
            for start in book[1]:
                for first, second in pairs[start]:
                    self.assertEqual(state_says(book, one, first), state_says(book, other, second))

    def test_independent_trees_part_but_for_three(self):
        """Trees whose texts, put together, have vectors that are no sums of each other part, but for three at most."""
        rng = random.Random(198)
        some = 0
        for book, one, other in pairs_of_tongues(198, 40):
            taken, space = [], Space(3)
            trees = start_trees(book, 6)
            rng.shuffle(trees)
            texts = [(says(book, one, tree), says(book, other, tree)) for tree in trees]
            digits = sorted({word for pair in texts for text in pair if text is not None for word in text})
            for tree, (text, second) in zip(trees, texts):
                if text is not None and second is not None:
                    # The second text behind the first one: the vector of one text.
                    if space.take(vector_of((text + second,), tuple(digits))):
                        taken.append(tree)
            alike_ones = [tree for tree in taken if not parts_at(book, one, other, SAME, tree)]
            some += len(taken)
            self.assertTrue(len(alike_ones) <= 3)
        self.assertTrue(some > 100, some)


if __name__ == "__main__":
    unittest.main()
