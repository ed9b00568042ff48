"""Links of terms, plugging, forms of functions, functions of pieces [38] to [42], G4, G7."""

import random
import unittest

from everytongue.erasing import erased
from everytongue.formchecker import lets_form
from everytongue.ftypes import doors_of, type_order
from everytongue.givenfunctions import functions_of
from everytongue.madefunctions import made_functions
from everytongue.piecechecker import lets_pieces
from everytongue.plugging import plugged, term_shapes
from everytongue.saying import texts_said
from everytongue.silents import silent_pieces, struck
from everytongue.steps import done_term, step_at, step_places
from everytongue.termchecker import lets_functions, lets_term
from everytongue.terms import tree_term
from everytongue.trimming import trimmed
from everytongue.wires import term_links, term_shape
from everytongue.worths import function_text, term_text
from asking import Asking
from samples import (BAD_BOOKS, BAD_FUNCTIONS, BAD_PIECES, BAD_TERMS, EMPTY, FOUR, MEAN, NEST, NO_CONS, NO_STARTS,
                     NoTerm, PAIRS, SPLIT, TYPES, function_samples, random_term, random_tongues, slow_nodes,
                     slow_texts, split_type, start_trees, trees_by_size, worth_end)

ATOM = (0,)
LINE = (1, 0, 0)
APP = ("app",)
WORD = (("word", "w"),)
SAME = (("lam", LINE), ("var", 0))


def slow_links(term, ftype):
    """Links put together part by part: each part's doors are its result's and those of its free variables."""
    wires, _ = part_wires(term, 0, ())
    signs = doors_of(ftype)
    rows = [(door, wires[("r", door)]) for door, sign in enumerate(signs) if sign]
    return tuple([(door, end[1], words) for door, (end, words) in rows])


def part_wires(term, at, around):
    """For the part at this place: where each way into it by a door ends; then the part's type."""
    token = term[at]
    if token[0] == "word":
        return {("r", 1): (("r", 0), (token[1],))}, LINE
    if token[0] == "var":
        own, kind = around[-1 - token[1]]
        wires = {}
        for door, sign in enumerate(doors_of(kind)):
            wires[("r" if sign else own, door)] = ((own if sign else "r", door), ())
        return wires, kind
    if token[0] == "lam":
        own, many = at, len(doors_of(token[1]))
        wires, kind = part_wires(term, at + 1, around + ((own, token[1]),))

        def outer(end):
            if end[0] == own:
                return ("r", end[1])
            return ("r", end[1] + many) if end[0] == "r" else end
        return {outer(one): (outer(end), words) for one, (end, words) in wires.items()}, (1,) + token[1] + kind
    one, kind = part_wires(term, at + 1, around)
    other, part = part_wires(term, worth_end(term, at + 1), around)
    many = len(doors_of(part))
    both = {("one",) + door if door[0] == "r" else door: value for door, value in one.items()}
    both.update({("other",) + door if door[0] == "r" else door: value for door, value in other.items()})
    wires = {}
    for door in both:
        if door[0] in ("one", "other") and not (door[0] == "one" and door[2] >= many):
            continue
        wires[("r", door[2] - many) if door[0] == "one" else door] = through(one, other, many, door)
    return wires, split_type(kind)[1]


def through(one, other, many, door):
    """Where a way ends that goes between a function's links and those of its argument."""
    words = ()
    if door[0] == "one":
        here, door = one, door[1:]
    else:
        here = one if door in one else other
    while True:
        door, more = here[door]
        words += more
        if door[0] != "r":
            return door, words
        if here is one and door[1] >= many:
            return ("r", door[1] - many), words
        here = other if here is one else one


class Links(Asking):

    def terms(self, seed, many):
        rng = random.Random(seed)
        while many:
            kind = rng.choice(TYPES + ((1,) + TYPES[1] + TYPES[2], (1,) + TYPES[3] + TYPES[0]))
            try:
                yield random_term(rng, kind, 60), kind
                many -= 1
            except NoTerm:
                pass

    def test_example(self):
        self.same(term_links(MEAN[2][1]), ((0, 2, ("b",)), (3, 1, ("a",))))

    def test_small(self):
        self.same(term_links(WORD), ((1, 0, ("w",)),))
        self.same(term_links((("lam", ATOM), ("var", 0))), ((1, 0, ()),))
        # Doors of the line type's function type: 0 and 3 are positive.
        self.same(term_links(SAME), ((0, 2, ()), (3, 1, ())))
        self.same(term_links((("lam", LINE), ("lam", ATOM), APP, ("word", "a"), APP, ("var", 1), ("var", 0))),
                  ((0, 2, ()), (3, 1, ("a",))))
        # A function that uses its argument on a word.
        term = (("lam", (1, 1, 0, 0, 1, 0, 0)), APP, ("var", 0), ("word", "a"))
        self.same(lets_term(term), (1, 1, 1, 0, 0, 1, 0, 0, 1, 0, 0))
        self.same(term_links(term), ((1, 0, ("a",)), (2, 4, ()), (5, 3, ())))

    def test_against_slow(self):
        for term, kind in self.terms(38, 400):
            self.same(term_links(term), slow_links(term, kind))

    def test_doors(self):
        # G4: each link leads from a positive door to another one, each door stands in just one.
        for term, kind in self.terms(39, 300):
            links = term_links(term)
            signs = doors_of(kind)
            self.assertEqual([first for first, _, _ in links], [k for k, sign in enumerate(signs) if sign])
            self.assertEqual(sorted([last for _, last, _ in links]), [k for k, sign in enumerate(signs) if not sign])
            words = sorted([word for _, _, text in links for word in text])
            self.assertEqual(words, sorted([token[1] for token in term if token[0] == "word"]))

    def test_no_step_changes_links(self):
        for term, _ in self.terms(40, 200):
            links = term_links(term)
            for at in step_places(term):
                self.same(term_links(step_at(term, at)), links)
            self.same(term_links(done_term(term)[0]), links)

    def test_lines(self):
        rng = random.Random(41)
        for _ in range(200):
            term = random_term(rng, LINE)
            self.same(term_links(term), ((1, 0, term_text(term)),))

    def test_large(self):
        term = tree_term(NEST, MEAN, (0,) + (1,) * 998 + (2,))
        self.same(term_links(term), ((1, 0, ("a",) * 998 + ("b",) * 998),))

    def test_shape(self):
        for term, _ in self.terms(42, 30):
            links = term_links(term)
            self.same(term_shape(links), tuple([link[:2] for link in links]))
        self.same(term_shape(()), ())
        self.same(term_shape(((7, 7, ("a",)), (0, 10 ** 59, ()), (7, 7, ("a",)))), ((7, 7), (0, 10 ** 59), (7, 7)))

    def test_parameters(self):
        self.asks(term_links, {"term": SAME}, {"term": BAD_TERMS})
        bad = (None, [], ((1, 0),), ((1, 0, ("a",), ()),), ((True, 0, ()),), ((1, -1, ()),), ((1, 0, ["a"]),),
               ([1, 0, ()],), ((1, 0, ("",)),), ((1, 0, ()), None), "abc", (1, 0, ()), 0)
        self.asks(term_shape, {"links": ((1, 0, ("a",)),)}, {"links": bad})


class Plugging(Asking):

    def test_example(self):
        self.same(plugged(NEST, MEAN, 1, (((1, 0, ("x",)),),)), ((1, 0, ("a", "x", "b")),))

    def test_trees(self):
        for book, functions in function_samples(43, 80):
            for rows in trees_by_size(book, 5):
                for tree in [tree for row in rows for tree in row][:25]:
                    nodes = slow_nodes(book, tree)
                    kids = []
                    at = 1
                    for _ in book[2][tree[0]][1]:
                        kids.append(term_links(tree_term(book, functions, nodes[at])))
                        at += len(nodes[at])
                    links = plugged(book, functions, tree[0], tuple(kids))
                    self.same(links, term_links(tree_term(book, functions, tree)))
                    passed = sum([len(words) for kid in kids for _, _, words in kid])
                    own = len([token for token in functions[2][tree[0]] if token[0] == "word"])
                    self.assertEqual(sum([len(words) for _, _, words in links]), passed + own)

    def test_rings_are_left_out(self):
        # The kid is a function from lines to lines, used on a word; kids with other links than
        # those of a tree make a ring that no way passes.
        kind = (1, 1, 0, 0, 1, 0, 0)
        book = (2, (0,), ((0, (1,)), (1, ())))
        functions = ("functions", (LINE, kind), ((("lam", kind), APP, ("var", 0), ("word", "r")), SAME))
        self.assertEqual(lets_functions(book, functions), 2)
        self.same(plugged(book, functions, 0, (((0, 2, ("x",)), (3, 1, ("y",))),)), ((1, 0, ("y", "r", "x")),))
        self.same(plugged(book, functions, 0, (((0, 1, ("x",)), (3, 2, ("y",))),)), ((1, 0, ("y",)),))

    def test_kids(self):
        bad = (None, (), (((1, 0, ()),),) * 2, [((1, 0, ()),)], ((),), (((0, 1, ()),),), (((1, 1, ()),),),
               (((0, 0, ()),),), (((1, 0, ()), (1, 0, ())),), (((1, 0),),), (((1, 0, ["a"]),),), (((1, 0, ("",)),),),
               (((True, 0, ()),),), (((1, False, ()),),), (([1, 0, ()],),), ([(1, 0, ())],), (((3, 0, ()),),),
               ((None,),), (((1, 2, ()),),), (((1, -2, ()),),))
        self.asks(plugged, {"book": NEST, "functions": MEAN, "con": 1, "kids": (((1, 0, ("x",)),),)},
                  {"book": BAD_BOOKS, "functions": BAD_FUNCTIONS, "con": (3, -1, True, None, "1"), "kids": bad})
        self.same(plugged(NEST, MEAN, 2, ()), ((1, 0, ()),))
        self.not_usable("kids", plugged, NEST, MEAN, 2, ((),))
        functions = functions_of(NEST, SPLIT)
        doors = doors_of(functions[1][1])
        ones = [k for k, sign in enumerate(doors) if sign]
        others = [k for k, sign in enumerate(doors) if not sign]
        good = tuple([(one, other, ()) for one, other in zip(ones, others)])
        plugged(NEST, functions, 1, (good,))
        self.not_usable("kids", plugged, NEST, functions, 1, (good[::-1],))
        self.not_usable("kids", plugged, NEST, functions, 1, (good[1:],))
        self.not_usable("kids", plugged, NEST, functions, 1, (good[:1] + good,))
        twice = tuple([(one, others[0], ()) for one in ones])
        self.not_usable("kids", plugged, NEST, functions, 1, (twice,))

    def test_kids_without_links(self):
        # Sorts of atoms, and of functions from two atoms, have no trees, and no links that would fit.
        pair = (1, 0, 1, 0, 0)
        book = (3, (0,), ((0, (1, 2)), (0, ())))
        term = (("lam", ATOM), ("lam", pair), ("lam", ATOM), APP, APP, ("var", 1), ("var", 2), ("var", 0))
        functions = ("functions", (LINE, ATOM, pair), (term, WORD))
        self.assertEqual(lets_functions(book, functions), 1)
        fits = ((1, 0, ()),)
        for one in ((), ((0, 0, ()),), ((0, 1, ()),), fits):
            for other in ((), ((2, 0, ()),), ((2, 1, ()),), ((2, 0, ()), (2, 1, ())), fits):
                self.not_usable("kids", plugged, book, functions, 0, (one, other))
        self.same(term_shapes(book, functions), ((((1, 0),),), (), ()))
        self.same(made_functions(book, functions), ((1, (0,), ((0, ()),)), (1,), ("pieces", (1,), ((("w",),),))))

    def test_term_shapes(self):
        self.same(term_shapes(NEST, MEAN), ((((1, 0),),), (((1, 0),),)))
        self.same(term_shapes(NO_CONS, ("functions", (LINE, ATOM), ())), ((), ()))
        self.same(term_shapes(EMPTY, ("functions", (), ())), ())
        for book, functions in function_samples(44, 150):
            shapes = term_shapes(book, functions)
            found = [set() for _ in range(book[0])]
            for sort, rows in enumerate(trees_by_size(book, 5)):
                for tree in [tree for row in rows for tree in row]:
                    found[sort].add(term_shape(term_links(tree_term(book, functions, tree))))
            for told, due in zip(shapes, found):
                self.assertTrue(due <= set(told))
                self.assertEqual(list(told), sorted(set(told)))
            # Each one comes: closed under the ways in which constructors make them, from no other ones.
            self.assertTrue(all([set(told) == self.closed(book, functions)[k] for k, told in enumerate(shapes)]))

    def closed(self, book, functions):
        found = [set() for _ in range(book[0])]
        while True:
            new = []
            for con, (result, kids) in enumerate(book[2]):
                rows = [()]
                for kid in kids:
                    rows = [row + (shape,) for row in rows for shape in found[kid]]
                for row in rows:
                    links = tuple([tuple([pair + ((),) for pair in shape]) for shape in row])
                    new.append((result, term_shape(plugged(book, functions, con, links))))
            if all([shape in found[sort] for sort, shape in new]):
                return found
            for sort, shape in new:
                found[sort].add(shape)

    def test_term_shapes_parameters(self):
        self.asks(term_shapes, {"book": NEST, "functions": MEAN}, {"book": BAD_BOOKS, "functions": BAD_FUNCTIONS})


class MadeFunctions(Asking):

    def test_nest(self):
        made, erase, said = made_functions(NEST, MEAN)
        self.assertEqual((made[0], sorted(erase), said[1]), (2, [0, 1, 2], (1, 1)))
        self.assertEqual(made_functions(NEST, functions_of(NEST, SPLIT))[2][1].count(2), 1)

    def test_edges(self):
        none = (EMPTY, (), ("pieces", (), ()))
        self.same(made_functions(EMPTY, ("functions", (), ())), none)
        self.same(made_functions(NO_CONS, ("functions", (LINE, ATOM), ())), none)
        self.same(made_functions(NO_STARTS, ("functions", (LINE, LINE), (SAME, WORD))), none)

    def test_forms(self):
        for book, functions in function_samples(45, 200):
            form = made_functions(book, functions)
            made, erase, said = form
            lets_form(book, form)
            self.same(trimmed(made), made)
            self.same(struck(made, said), said)
            due = {tree: function_text(book, functions, tree) for tree in start_trees(book, 5)}
            trees = start_trees(made, 5)
            told = {erased(form, tree): texts_said(made, said, tree)[0] for tree in trees}
            self.assertEqual(told, due)
            self.assertEqual(len(trees), len(due))

    def test_sorts_and_constructors(self):
        for book, functions in function_samples(46, 150):
            made, erase, said = made_functions(book, functions)
            sorts, ways = set(), set()
            for tree in start_trees(book, 6):
                nodes = slow_nodes(book, tree)
                pairs = []
                for node in nodes:
                    shape = term_shape(term_links(tree_term(book, functions, node)))
                    pairs.append((book[2][node[0]][0], shape))
                for at, node in enumerate(nodes):
                    place, row = at + 1, []
                    for _ in book[2][node[0]][1]:
                        row.append(pairs[place])
                        place += len(nodes[place])
                    ways.add((node[0], tuple(row)))
                sorts |= set(pairs)
            # All that stands in start trees of these books stands in some of at most six nodes, or in none told.
            self.assertTrue(len(sorts) <= made[0])
            self.assertTrue(len(ways) <= len(made[2]))
            shown = {node for tree in start_trees(made, 6) for node in tree}
            if len(shown) == len(made[2]):
                self.assertEqual((len(sorts), len(ways)), (made[0], len(made[2])))
                self.assertEqual(sorted(erase), sorted([con for con, _ in ways]))

    def test_widths(self):
        for book, functions in function_samples(47, 80):
            made, erase, said = made_functions(book, functions)
            most = max([len(doors_of(ftype)) for ftype in functions[1]], default=0)
            self.assertTrue(all([2 * width <= most for width in said[1]]))

    def test_pieces_are_links(self):
        # Sort 1 has two shapes: it keeps or exchanges two lines; one line is always silent there.
        kind = (1, 1, 0, 0, 1, 1, 0, 0, 1, 0, 0)
        pair = (("lam", LINE), ("lam", LINE), ("lam", ATOM))
        keep = pair + (APP, ("var", 2), APP, ("word", "k"), APP, ("var", 1), ("var", 0))
        turn = pair + (APP, ("var", 1), APP, ("var", 2), ("var", 0))
        use = (("lam", kind), APP, APP, ("var", 0), ("word", "x"), ("word", "y"))
        book = (2, (0,), ((0, (1,)), (1, ()), (1, ())))
        functions = ("functions", (LINE, kind), (use, keep, turn))
        made, erase, said = made_functions(book, functions)
        self.assertEqual((made[0], sorted(erase)), (3, [0, 0, 1, 2]))
        self.assertEqual(sorted(said[1]), [1, 1, 1])
        told = {erased((made, erase, said), tree): texts_said(made, said, tree)[0] for tree in start_trees(made, 2)}
        self.assertEqual(told, {(0, 1): ("x", "k", "y"), (0, 2): ("y", "x")})

    def test_parameters(self):
        self.asks(made_functions, {"book": NEST, "functions": MEAN}, {"book": BAD_BOOKS, "functions": BAD_FUNCTIONS})


class FunctionsOf(Asking):

    def test_example(self):
        self.same(functions_of(NEST, SPLIT)[1], (LINE, (1, 1, 1, 0, 0, 1, 1, 0, 0, 1, 0, 0, 1, 0, 0)))

    def test_same_texts(self):
        for book, pieces in random_tongues(48, 300):
            functions = functions_of(book, pieces)
            order = lets_functions(book, functions)
            self.assertEqual(order, 3 if max(pieces[1]) > 1 else 1)
            for width, ftype in zip(pieces[1], functions[1]):
                lines = (1,) + LINE
                self.same(ftype, LINE if width == 1 else (1,) + lines * width + LINE + LINE)
                self.assertEqual(type_order(ftype), 1 if width == 1 else 3)
            for tree in start_trees(book, 5)[:60]:
                self.same(function_text(book, functions, tree), slow_texts(book, pieces, tree)[0])

    def test_wide(self):
        rows = tuple([tuple([(k, p) for k in range(4)]) for p in range(6)])
        book = (2, (0,), ((0, (1,)), (1, (1, 1, 1, 1)), (1, ())))
        top = (("<",) + tuple([(0, p) for p in range(6)]) + (">",),)
        pieces = ("pieces", (1, 6), (top, rows, tuple([(str(p),) for p in range(6)])))
        functions = functions_of(book, pieces)
        lets_functions(book, functions)
        tree = (0, 1, 2, 2, 1, 2, 2, 2, 2, 2)
        self.same(function_text(book, functions, tree), texts_said(book, pieces, tree)[0])

    def test_edges(self):
        self.same(functions_of(EMPTY, ("pieces", (), ())), ("functions", (), ()))
        self.same(functions_of(NO_CONS, ("pieces", (1, 2), ()))[2], ())
        four = ("pieces", (1, 1), ((((3, 0), "m", (1, 0), (0, 0), (2, 0)),), ((),), (("x", "y"),),
                                   (((1, 0), (0, 0)),)))
        functions = functions_of(FOUR, four)
        for tree in start_trees(FOUR, 7)[:80]:
            self.same(function_text(FOUR, functions, tree), slow_texts(FOUR, four, tree)[0])

    def test_there_and_back(self):
        # A form of the functions says what the pieces say, with no more pieces.
        for book, pieces in random_tongues(49, 60):
            form = made_functions(book, functions_of(book, pieces))
            told = {erased(form, tree): texts_said(form[0], form[2], tree) for tree in start_trees(form[0], 5)}
            self.assertEqual(told, {tree: slow_texts(book, pieces, tree) for tree in start_trees(book, 5)})
            lets_pieces(form[0], form[2])
            less = [width - len(row) for width, row in zip(pieces[1], silent_pieces(book, pieces))]
            self.assertTrue(max(form[2][1], default=0) <= max(less + [1]))

    def test_large(self):
        functions = functions_of(NEST, SPLIT)
        tree = (0,) + (1,) * 998 + (2,)
        self.same(function_text(NEST, functions, tree), ("a",) * 998 + ("b",) * 998)
        self.assertEqual(lets_term(tree_term(NEST, functions, tree)), LINE)
        self.same(term_links(tree_term(NEST, functions, tree)), ((1, 0, ("a",) * 998 + ("b",) * 998),))
        said = ("pieces", (1,), ((("x",),), (((1, 0), (0, 0), "y"),)))
        tree = (1,) * 499 + (0,) * 500
        self.same(function_text(PAIRS, functions_of(PAIRS, said), tree), texts_said(PAIRS, said, tree)[0])

    def test_parameters(self):
        self.asks(functions_of, {"book": NEST, "pieces": SPLIT}, {"book": BAD_BOOKS, "pieces": BAD_PIECES})


if __name__ == "__main__":
    unittest.main()
