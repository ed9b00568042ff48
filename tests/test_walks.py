"""Walks, behaviours, visits, and what walks meet [44] to [48], [52], G5."""

import random

import unittest

from everytongue.behaviours import all_behaviours, behaviour_made, behaviour_of
from everytongue.errors import TooMuch
from everytongue.reaching import met_rules, met_walker, reached, rule_tree
from everytongue.visits import kids_entered, visits_of
from everytongue.walkerchecker import lets_walker
from everytongue.walking import walk_steps, walk_text
from asking import Asking
from samples import (BAD_BOOKS, BAD_TREES, EMPTY, FOUR, NEST, NO_CONS, NO_STARTS, PAIRS, WALK, slow_kids, slow_nodes,
                     start_trees, trees_by_size)
from waysamples import BAD_WALKERS, HALT, slow_behaviour, slow_walk, walker_samples

BAD_STARTS = BAD_TREES + ((2,), (1, 2))
LEAF = (1, (0,), ((0, ()),))
# Sort 1 has kids that a walk may enter in two states.
TWICE = (2, (0,), ((0, (1,)), (1, ()), (1, (1,))))


def all_trees(book, most):
    """All trees of each sort with at most so many nodes."""
    return [[tree for row in rows for tree in row] for rows in trees_by_size(book, most)]


def slow_visits(walker, con, behaviours, state):
    """The kids' entries of a visit, and the state in which it leaves, -1 if it never does."""
    came, seen, entries = 0, set(), []
    while (state, came) not in seen:
        seen.add((state, came))
        rules = [rule for rule in walker[2] if rule[:3] == (state, con, came)]
        if not rules:
            return entries, -1
        _, _, _, _, to, state = rules[0]
        if to == 0:
            return entries, state
        entries.append((to - 1, state))
        state, came = behaviours[to - 1][state], to
        if state == -1:
            return entries, -1
    return entries, -1


class Steps(Asking):

    def test_examples(self):
        self.same(walk_steps(NEST, WALK, (0, 2), 0), ("ended", ((0, 0, 0), (1, 0, 0), (0, 0, 1))))
        self.same(walk_text(NEST, WALK, (0, 1, 2)), ("a", "b"))

    def test_all_walks(self):
        words = {"ended": 0, "stuck": 0, "round": 0}
        for book, walker in walker_samples(60, 60):
            lets_walker(book, walker)
            for rows in all_trees(book, 5):
                for tree in rows[:12]:
                    for state in range(walker[1]):
                        due = slow_walk(book, walker, tree, state)
                        self.same(walk_steps(book, walker, tree, state), due[:2])
                        words[due[0]] += 1
                        if state == 0 and book[2][tree[0]][0] in book[1]:
                            self.same(walk_text(book, walker, tree), due[2] if due[0] == "ended" else None)
        self.assertTrue(min(words.values()) > 50, words)

    def test_ends(self):
        # At the root upward at once; in another state; stuck at the first place and at a later one.
        self.same(walk_steps(LEAF, ("walker", 2, ((0, 0, 0, ("w",), 0, 1),)), (0,), 0), ("ended", ((0, 0, 0),)))
        self.same(walk_steps(LEAF, ("walker", 2, ((0, 0, 0, ("w",), 0, 1),)), (0,), 1), ("stuck", ((0, 1, 0),)))
        self.same(walk_steps(NEST, ("walker", 1, ()), (0, 1, 2), 0), ("stuck", ((0, 0, 0),)))
        self.same(walk_steps(NEST, HALT, (0, 1, 2), 0), ("stuck", ((0, 0, 0), (1, 0, 0))))
        self.assertIsNone(walk_text(NEST, HALT, (0, 1, 2)))
        self.same(walk_text(NEST, HALT, (0, 2)), ())
        # Below the root a walk goes on upward; where the tree itself is asked for, it ends.
        self.same(walk_steps(NEST, HALT, (2,), 0), ("ended", ((0, 0, 0),)))

    def test_round(self):
        up_and_down = ("walker", 1, ((0, 0, 0, (), 1, 0), (0, 0, 1, (), 1, 0), (0, 2, 0, ("w",), 0, 0)))
        self.same(walk_steps(NEST, up_and_down, (0, 2), 0), ("round", ((0, 0, 0), (1, 0, 0), (0, 0, 1))))
        self.assertIsNone(walk_text(NEST, up_and_down, (0, 2)))
        # The same node and came in another state is no round.
        more = ("walker", 2, ((0, 0, 0, (), 1, 0), (0, 0, 1, (), 1, 1), (0, 2, 0, ("v",), 0, 0),
                              (1, 0, 1, ("w",), 0, 1), (1, 2, 0, ("x",), 0, 1)))
        self.same(walk_text(NEST, more, (0, 2)), ("v", "x", "w"))
        self.same(len(walk_steps(NEST, more, (0, 2), 0)[1]), 5)

    def test_long(self):
        tree = (0,) + (1,) * 998 + (2,)
        self.same(walk_text(NEST, WALK, tree), ("a",) * 998 + ("b",) * 998)
        self.assertEqual(len(walk_steps(NEST, WALK, tree, 0)[1]), 1999)
        six = tuple([(s, c, k, ("w",), 1 - k if c < 2 else 0, (s + 1) % 6) for s in range(6) for c in range(3)
                     for k in range(2 if c < 2 else 1)])
        self.assertEqual(slow_walk(NEST, ("walker", 6, six), tree[:30] + (2,), 0)[:2],
                         walk_steps(NEST, ("walker", 6, six), tree[:30] + (2,), 0))
        wide = (1,) * 499 + (0,) * 500
        rules = ((0, 0, 0, ("x",), 0, 0), (0, 1, 0, (), 2, 0), (0, 1, 1, ("y",), 0, 0), (0, 1, 2, (), 1, 0))
        self.same(walk_text(PAIRS, ("walker", 1, rules), wide), ("x",) * 500 + ("y",) * 499)

    def test_parameters(self):
        self.asks(walk_steps, {"book": NEST, "walker": WALK, "tree": (1, 2), "state": 0},
                  {"book": BAD_BOOKS, "walker": BAD_WALKERS, "tree": BAD_TREES,
                   "state": (1, -1, True, False, None, "0", (0,), 10 ** 59)})
        self.asks(walk_text, {"book": NEST, "walker": WALK, "start_tree": (0, 1, 2)},
                  {"book": BAD_BOOKS, "walker": BAD_WALKERS, "start_tree": BAD_STARTS})
        self.not_usable("start_tree", walk_text, NO_STARTS, ("walker", 1, ()), (0, 1))


class Behaviours(Asking):

    def test_examples(self):
        self.same(behaviour_made(NEST, WALK, 1, ((-1,),)), (-1,))
        self.same(behaviour_made(NEST, WALK, 1, ((0,),)), (0,))
        self.same(behaviour_made(NEST, WALK, 2, ()), (0,))

    def test_all_trees(self):
        found = {}
        for book, walker in walker_samples(61, 60):
            for rows in all_trees(book, 5):
                for tree in rows[:12]:
                    behaviour = slow_behaviour(book, walker, tree)
                    found[behaviour] = True
                    self.same(behaviour_of(book, walker, tree), behaviour)
                    kids = tuple([behaviour_of(book, walker, kid) for kid in slow_kids(book, tree)])
                    self.same(behaviour_made(book, walker, tree[0], kids), behaviour)
        self.assertTrue(len(found) > 20)

    def test_any_kids(self):
        # Behaviours that no tree has, too.
        rng = random.Random(62)
        left = 0
        for book, walker in walker_samples(62, 60):
            for con, (_, kids) in enumerate(book[2]):
                for _ in range(4):
                    told = tuple([tuple([rng.randint(-1, walker[1] - 1) for _ in range(walker[1])]) for _ in kids])
                    due = tuple([slow_visits(walker, con, told, state)[1] for state in range(walker[1])])
                    self.same(behaviour_made(book, walker, con, told), due)
                    left += due.count(-1)
        self.assertTrue(left > 100)

    def test_all_behaviours(self):
        for book, walker in walker_samples(63, 60):
            told = all_behaviours(book, walker)
            self.assertEqual(len(told), book[0])
            for sort, rows in enumerate(all_trees(book, 6)):
                due = {behaviour_of(book, walker, tree) for tree in rows}
                self.assertTrue(due <= set(told[sort]))
                self.same(told[sort], tuple(sorted(set(told[sort]))))
            self.same(told, self.closed(book, walker))

    def closed(self, book, walker):
        """All behaviours, by making more till there are no more."""
        found = [set() for _ in range(book[0])]
        while True:
            many = sum([len(row) for row in found])
            for con, (result, kids) in enumerate(book[2]):
                rows = [()]
                for kid in kids:
                    rows = [row + (behaviour,) for row in rows for behaviour in found[kid]]
                found[result] |= {behaviour_made(book, walker, con, row) for row in rows}
            if many == sum([len(row) for row in found]):
                return tuple([tuple(sorted(row)) for row in found])

    def test_edges(self):
        self.same(all_behaviours(EMPTY, ("walker", 3, ())), ())
        self.same(all_behaviours(NO_CONS, ("walker", 3, ())), ((), ()))
        self.same(all_behaviours(NO_STARTS, ("walker", 2, ())), (((-1, -1),), ((-1, -1),)))
        self.same(all_behaviours(LEAF, ("walker", 2, ((0, 0, 0, (), 0, 1), (1, 0, 0, (), 0, 0)))), (((1, 0),),))
        self.same(behaviour_of(NEST, HALT, (0, 1, 2)), (-1,))
        self.same(behaviour_of(NEST, WALK, (1,) * 999 + (2,)), (0,))

    def test_many_behaviours(self):
        # A sort whose trees permute six states in all ways.
        rules = [(s, 0, 0, (), 0, s) for s in range(6)]
        for s in range(6):
            rules += [(s, 1, 0, (), 1, (s + 1) % 6), (s, 1, 1, (), 0, s)]
            rules += [(s, 2, 0, (), 1, {0: 1, 1: 0}.get(s, s)), (s, 2, 1, (), 0, s)]
        book = (1, (0,), ((0, ()), (0, (0,)), (0, (0,))))
        self.assertEqual(len(all_behaviours(book, ("walker", 6, tuple(sorted(rules))))[0]), 720)

    def test_parameters(self):
        self.asks(behaviour_of, {"book": NEST, "walker": WALK, "tree": (1, 2)},
                  {"book": BAD_BOOKS, "walker": BAD_WALKERS, "tree": BAD_TREES})
        self.asks(all_behaviours, {"book": NEST, "walker": WALK}, {"book": BAD_BOOKS, "walker": BAD_WALKERS})
        self.asks(behaviour_made, {"book": NEST, "walker": WALK, "con": 1, "behaviours": ((0,),)},
                  {"book": BAD_BOOKS, "walker": BAD_WALKERS, "con": (3, -1, True, None, "1", (1,)),
                   "behaviours": (None, (), [(0,)], ([0],), ((0, 0),), ((),), ((1,),), ((-2,),), ((True,),), ((None,),),
                                  ((0,), (0,)), (0,), 0, "0", (("0",),), (((0,),),))})
        self.not_usable("behaviours", behaviour_made, NEST, WALK, 2, ((0,),))


class Visits(Asking):

    def test_examples(self):
        self.same(visits_of(NEST, WALK, (0, 2)), (((0, 0),), ((0, 0),)))
        self.same(kids_entered(NEST, WALK, 1, ((0,),), ()), ((),))

    def test_visits(self):
        ended = 0
        for book, walker in walker_samples(64, 80):
            for tree in start_trees(book, 5)[:25]:
                word, steps, _ = slow_walk(book, walker, tree, 0)
                told = visits_of(book, walker, tree)
                if word != "ended":
                    self.assertIsNone(told)
                    continue
                ended += 1
                self.assertEqual(len(told), len(tree))
                nodes = slow_nodes(book, tree)
                for at, visits in enumerate(told):
                    entered = tuple([state for node, state, came in steps if node == at and came == 0])
                    self.same(tuple([before for before, _ in visits]), entered)
                    behaviour = behaviour_of(book, walker, nodes[at])
                    self.same(tuple([behind for _, behind in visits]), tuple([behaviour[state] for state in entered]))
                    # G5: unlike states.
                    self.assertEqual(len(set(entered)), len(entered))
                    self.assertEqual(len({behind for _, behind in visits}), len(entered))
                self.same(told[0], ((0, behaviour_of(book, walker, tree)[0]),))
                self.check_kids(book, walker, tree, told)
        self.assertTrue(ended > 500)

    def check_kids(self, book, walker, tree, told):
        """kids_entered tells the entries of the kids of each node."""
        nodes = slow_nodes(book, tree)
        for at, node in enumerate(nodes):
            behaviours = tuple([behaviour_of(book, walker, kid) for kid in slow_kids(book, node)])
            place, due = at + 1, []
            for _ in behaviours:
                due.append(tuple([before for before, _ in told[place]]))
                place += len(nodes[place])
            entered = tuple([before for before, _ in told[at]])
            self.same(kids_entered(book, walker, node[0], behaviours, entered), tuple(due))

    def test_any_visits(self):
        rng = random.Random(65)
        nothing = 0
        for book, walker in walker_samples(65, 80):
            for con, (_, kids) in enumerate(book[2]):
                for _ in range(5):
                    told = tuple([tuple([rng.randint(-1, walker[1] - 1) for _ in range(walker[1])]) for _ in kids])
                    entered = rng.sample(range(walker[1]), rng.randint(0, walker[1]))
                    due = [[] for _ in kids]
                    fits = True
                    for state in entered:
                        entries, left = slow_visits(walker, con, told, state)
                        fits = fits and left != -1
                        for kid, inner in entries:
                            fits = fits and inner not in due[kid]
                            due[kid].append(inner)
                    due = tuple([tuple(row) for row in due]) if fits else None
                    nothing += due is None
                    self.same(kids_entered(book, walker, con, told, tuple(entered)), due)
        self.assertTrue(nothing > 100)

    def test_entered_twice(self):
        # Two visits that enter the kid in one state.
        rules = ((0, 0, 0, (), 1, 0), (0, 0, 1, (), 0, 0), (1, 0, 0, (), 1, 0))
        walker = ("walker", 2, rules)
        self.same(kids_entered(NEST, walker, 0, ((0, 1),), (0,)), ((0,),))
        self.same(kids_entered(NEST, walker, 0, ((0, 1),), (1,)), ((0,),))
        self.assertIsNone(kids_entered(NEST, walker, 0, ((0, 1),), (0, 1)))
        self.assertIsNone(kids_entered(NEST, walker, 0, ((-1, 1),), (0,)))
        self.assertIsNone(kids_entered(NEST, walker, 0, ((1, 1),), (0,)))
        self.same(kids_entered(NEST, walker, 2, (), ()), ())
        self.assertIsNone(kids_entered(NEST, walker, 2, (), (0,)))

    def test_nodes_not_entered(self):
        over = ("walker", 1, ((0, 0, 0, ("w",), 0, 0),))
        self.same(visits_of(NEST, over, (0, 1, 2)), (((0, 0),), (), ()))
        self.same(visits_of(LEAF, ("walker", 3, ((0, 0, 0, (), 0, 2),)), (0,)), (((0, 2),),))
        self.assertIsNone(visits_of(NEST, HALT, (0, 1, 2)))

    def test_parameters(self):
        self.asks(visits_of, {"book": NEST, "walker": WALK, "start_tree": (0, 1, 2)},
                  {"book": BAD_BOOKS, "walker": BAD_WALKERS, "start_tree": BAD_STARTS})
        self.asks(kids_entered, {"book": NEST, "walker": WALK, "con": 1, "behaviours": ((0,),), "entered": (0,)},
                  {"book": BAD_BOOKS, "walker": BAD_WALKERS, "con": (3, -1, True, None, "1"),
                   "behaviours": (None, (), [(0,)], ([0],), ((0, 0),), ((1,),), ((-2,),), ((True,),), 0),
                   "entered": (None, 0, [0], [], (1,), (-1,), (True,), (False,), (0, 0), (None,), "0", ((0,),))})


class Meeting(Asking):

    def test_example(self):
        self.same(reached(NEST, WALK), ((((0,), 0),), (((0,), 0),)))
        self.same(met_rules(NEST, WALK), (0, 1, 2, 3, 4))

    def test_listed_trees(self):
        """What listed start trees show is told; what is told is shown by trees, where these are small."""
        shown, hidden = 0, 0
        for book, walker in walker_samples(66, 70):
            pairs = [set() for _ in range(book[0])]
            used = set()
            for tree in start_trees(book, 6):
                nodes = slow_nodes(book, tree)
                for node, state, came in slow_walk(book, walker, tree, 0)[1]:
                    if came == 0:
                        sort = book[2][tree[node]][0]
                        pairs[sort].add((behaviour_of(book, walker, nodes[node]), state))
                    used |= {at for at, rule in enumerate(walker[2]) if rule[:3] == (state, tree[node], came)}
            told, met = reached(book, walker), met_rules(book, walker)
            for sort in range(book[0]):
                self.assertTrue(pairs[sort] <= set(told[sort]))
                self.same(told[sort], tuple(sorted(set(told[sort]))))
            self.same(met, tuple(sorted(set(met))))
            self.assertTrue(used <= set(met))
            for at in range(len(walker[2])):
                tree = rule_tree(book, walker, at)
                self.assertEqual(tree is None, at not in met)
                if tree is not None:
                    self.check_use(book, walker, at, tree)
                    shown += 1
                    if at in used:
                        self.assertTrue(len(tree) <= 6)
                    else:
                        self.assertTrue(len(tree) > 6)
                        hidden += 1
            # Each pair is met by its own way: a walker in which just this pair would be left out is none.
            self.same(told, self.closed(book, walker))
        self.assertTrue(shown > 500 and hidden > 5, (shown, hidden))

    def check_use(self, book, walker, at, tree):
        self.assertIn(book[2][tree[0]][0], book[1])
        steps = slow_walk(book, walker, tree, 0)[1]
        self.assertIn(walker[2][at][:3], [(state, tree[node], came) for node, state, came in steps])

    def closed(self, book, walker):
        """What is reached, by going on till there is no more."""
        behaviours = all_behaviours(book, walker)
        found = [set() for _ in range(book[0])]
        for start in book[1]:
            found[start] = {(behaviour, 0) for behaviour in behaviours[start]}
        while True:
            many = sum([len(row) for row in found])
            for con, (result, kids) in enumerate(book[2]):
                rows = [()]
                for kid in kids:
                    rows = [row + (behaviour,) for row in rows for behaviour in behaviours[kid]]
                for row in rows:
                    made = behaviour_made(book, walker, con, row)
                    for behaviour, state in list(found[result]):
                        if behaviour == made:
                            for kid, inner in slow_visits(walker, con, row, state)[0]:
                                found[kids[kid]].add((row[kid], inner))
            if many == sum([len(row) for row in found]):
                return tuple([tuple(sorted(row)) for row in found])

    def test_rules_left_out(self):
        """Rules that are not met can be left out or changed: walks of start trees stay."""
        rng = random.Random(67)
        left_out = 0
        for book, walker in walker_samples(67, 60):
            met = met_rules(book, walker)
            less = met_walker(book, walker)
            self.same(less, ("walker", walker[1], tuple([walker[2][at] for at in met])))
            left_out += len(walker[2]) - len(met)
            rules = []
            for at, rule in enumerate(walker[2]):
                if at not in met:
                    many = len(book[2][rule[1]][1])
                    rule = rule[:3] + (("new",), rng.randint(0, many), rng.randrange(walker[1]))
                rules.append(rule)
            for tree in start_trees(book, 5)[:20]:
                steps = walk_steps(book, walker, tree, 0)
                self.same(walk_steps(book, less, tree, 0), steps)
                self.same(walk_steps(book, ("walker", walker[1], tuple(rules)), tree, 0), steps)
            self.same(met_rules(book, less), tuple(range(len(met))))
        self.assertTrue(left_out > 100)

    def test_edges(self):
        self.same(reached(EMPTY, ("walker", 2, ())), ())
        self.same(met_rules(EMPTY, ("walker", 2, ())), ())
        self.same(reached(NO_CONS, ("walker", 2, ())), ((), ()))
        walker = ("walker", 1, ((0, 0, 0, (), 1, 0), (0, 1, 0, (), 0, 0)))
        self.same(reached(NO_STARTS, walker), ((), ()))
        self.same(met_walker(NO_STARTS, walker), ("walker", 1, ()))
        self.assertIsNone(rule_tree(NO_STARTS, walker, 1))
        # Walks that do not end meet what they meet.
        self.same(reached(NEST, HALT), ((((-1,), 0), ((0,), 0)), (((-1,), 0), ((0,), 0))))
        self.same(met_rules(NEST, HALT), (0, 1, 2))
        self.same(reached(NEST, ("walker", 1, ())), ((((-1,), 0),), ()))
        # A walk that goes round within a kid has come to the kid.
        bounce = ("walker", 1, ((0, 0, 0, (), 1, 0), (0, 1, 0, (), 1, 0), (0, 1, 1, (), 1, 0), (0, 2, 0, (), 0, 0)))
        self.same(met_rules(NEST, bounce), (0, 1, 2, 3))
        self.same(reached(FOUR, ("walker", 1, ((0, 0, 0, (), 4, 0),)))[1], (((-1,), 0),))

    def test_rule_trees(self):
        # The rule of a state that is come to after so many layers.
        for many in (1, 5, 6):
            rules = [(s, 1, 0, (), 1, s + 1) for s in range(many - 1)] + [(many - 1, 2, 0, (), 0, 0), (0, 0, 0, (), 1, 0)]
            rules = tuple(sorted(rules))
            at = rules.index((many - 1, 2, 0, (), 0, 0))
            self.same(rule_tree(NEST, ("walker", many, rules), at), (0,) + (1,) * (many - 1) + (2,))

    def test_large_rule_trees(self):
        # A start tree with a kid of so many nodes.
        for many in (98, 998):
            chain = tuple([(k, (k + 1,)) for k in range(1, many)]) + ((many, ()),)
            book = (many + 1, (0,), ((0, (1,)),) + chain)
            tree = rule_tree(book, ("walker", 1, ((0, 0, 0, (), 0, 0),)), 0)
            self.same(tree, tuple(range(many + 1)))
        book = (1001, (0,), tuple([(k, (k + 1,)) for k in range(1000)]) + ((1000, ()),))
        self.refused(TooMuch, ("tree",), rule_tree, book, ("walker", 1, ((0, 0, 0, (), 0, 0),)), 0)

    def test_parameters(self):
        self.asks(reached, {"book": NEST, "walker": WALK}, {"book": BAD_BOOKS, "walker": BAD_WALKERS})
        self.asks(met_rules, {"book": NEST, "walker": WALK}, {"book": BAD_BOOKS, "walker": BAD_WALKERS})
        self.asks(met_walker, {"book": NEST, "walker": WALK}, {"book": BAD_BOOKS, "walker": BAD_WALKERS})
        self.asks(rule_tree, {"book": NEST, "walker": WALK, "at": 3},
                  {"book": BAD_BOOKS, "walker": BAD_WALKERS, "at": (5, -1, True, None, "0", (0,), [0], 10 ** 59)})
        self.not_usable("at", rule_tree, NEST, ("walker", 1, ()), 0)


if __name__ == "__main__":
    unittest.main()
