"""Names, trees by names, books and tongues in lines [103] to [107], [112]."""

import random
import unittest

from everytongue.bookreadings import read_book
from everytongue.booktexts import book_text
from everytongue.checkers import lets_book
from everytongue.errors import InvalidText, TongueError, TooMuch
from everytongue.lexicons import is_lexicon, is_name, named_tree, read_named
from everytongue.tonguechecker import lets_tongue
from everytongue.tonguereadings import read_tongue
from everytongue.tonguetexts import tongue_text
from asking import Asking
from samples import (BAD_BOOKS, BAD_TREES, DEAD, EMPTY, FOUR, MEAN, NEST, NO_CONS, NO_STARTS, PAIRS, SPLIT, WALK, random_book,
                     slow_kids, start_trees, trees_by_size)
from waysamples import BAD_TONGUES, HALT, NET, tongue_samples

LEX = (("s", "a"), ("top", "wrap", "end"))
BAD_LEXICONS = (None, (), LEX[:1], LEX + ((),), list(LEX), (("s",), LEX[1]), (LEX[0], LEX[1][:2]), (("s", "s"), LEX[1]),
                (LEX[0], ("top", "wrap", "top")), (["s", "a"], LEX[1]), (("s", ""), LEX[1]), (("s", "A"), LEX[1]), (("s", 1), LEX[1]),
                (("s", "1a"), LEX[1]), (LEX[1], LEX[0]), "ab", (LEX[0], LEX[1] + ("more",)))
BAD_STRINGS = (None, 1, (), ("a",), ["a"], True)


def any_lexicon(rng, book):
    """Any lexicon of the book; sorts may have the names of constructors."""
    names = ["a", "b1", "x" * 16, "rule", "con", "sorts", "z9", "app", "a0", "e", "say", "lam", "var", "s", "t", "u", "v", "w0", "y", "q"]
    return tuple([tuple(rng.sample(names, many)) for many in (book[0], len(book[2]))])


class Lines(Asking):

    def invalid_text(self, line, field, function, *args):
        """The text is refused at this place."""
        self.refused(InvalidText, (line, field), function, *args)


class Names(Lines):

    def test_names(self):
        for good in ("a", "z", "a1", "rule", "x" * 16, "a0z9"):
            self.same(is_name(good), True)
            self.same(is_name(thing=good), True)
        for bad in (None, "", "1", "1a", "A", "aB", "a b", "a_", "a-", "x" * 17, "a\n", "\n", 1, True, ("a",), ["a"], (), "(", "a.b"):
            self.same(is_name(bad), False)

    def test_lexicons(self):
        self.same(is_lexicon(NEST, LEX), True)
        self.same(is_lexicon(book=NEST, thing=LEX), True)
        self.same(is_lexicon(NEST, (("a", "b"), ("a", "b", "c"))), True)
        self.same(is_lexicon(EMPTY, ((), ())), True)
        for bad in BAD_LEXICONS:
            self.same(is_lexicon(NEST, bad), False)
        self.asks(is_lexicon, {"book": NEST, "thing": LEX}, {"book": BAD_BOOKS}, ("thing",))

    def slow_named(self, book, lexicon, tree):
        """As told in [103]."""
        kids = [self.slow_named(book, lexicon, kid) for kid in slow_kids(book, tree)]
        return lexicon[1][tree[0]] + ("(" + ", ".join(kids) + ")" if kids else "")

    def test_trees(self):
        rng = random.Random(200)
        many = 0
        for _ in range(60):
            book = random_book(rng, most_kids=4)
            lexicon = any_lexicon(rng, book)
            for rows in trees_by_size(book, 5):
                for tree in [tree for row in rows for tree in row][:15]:
                    many += 1
                    text = named_tree(book, lexicon, tree)
                    self.same(text, self.slow_named(book, lexicon, tree))
                    self.same(read_named(book, lexicon, text), tree)
                    self.spoilt(rng, book, lexicon, text)
        self.assertTrue(many > 200, many)

    def spoilt(self, rng, book, lexicon, text):
        """The text with one sign more, fewer or changed: refused where the beginning of no tree's text stands, or read."""
        for _ in range(3):
            at = rng.randrange(len(text) + 1)
            sign = rng.choice(list("(), a1xZ\n-") + [""])
            other = text[:at] + sign + text[at + rng.choice((0, 1)):]
            try:
                tree = read_named(book, lexicon, other)
                self.same(named_tree(book, lexicon, tree), other)
            except InvalidText as error:
                self.assertEqual(error.line, 0)
                self.assertTrue(0 <= error.field <= len(other))

    def test_places(self):
        for text, at in (("", 0), ("top", 3), ("top(", 4), ("top(end", 7), ("top(end))", 8), ("top(end) ", 8), (" top(end)", 0),
                         ("top (end)", 3), ("top( end)", 4), ("top(top(end))", 4), ("top(wrap(end)", 13), ("nope", 0), ("en", 0),
                         ("endx", 0), ("end2", 0), ("end(", 3), ("end()", 3), ("wrap()", 5), ("wrap(end2)", 5), ("wrap(end\n)", 8),
                         ("End", 0), ("top(wrap(wrap))", 13), ("s", 0), ("top(end,end)", 7), ("end,", 3), ("\n", 0), ("end\n", 3)):
            self.invalid_text(0, at, read_named, NEST, LEX, text)
        lexicon = (("s",), ("leaf", "pair"))
        for text, at in (("pair(leaf)", 9), ("pair(leaf,leaf)", 10), ("pair(leaf, leaf", 15), ("pair(leaf, )", 11), ("pair(leaf,", 10),
                         ("pair(leaf,  leaf)", 11), ("pair(leaf, leaf, leaf)", 15), ("pair(leaf leaf)", 9), ("pair", 4), ("pair(leaf, leaf))", 16)):
            self.invalid_text(0, at, read_named, PAIRS, lexicon, text)
        self.same(read_named(NEST, LEX, "end"), (2,))
        self.invalid_text(0, 0, read_named, EMPTY, ((), ()), "a")
        # A name that begins another one: the longest stretch counts.
        lexicon = (("s", "a"), ("e", "e1", "e12"))
        self.same(read_named(NEST, lexicon, "e(e1(e12))"), (0, 1, 2))
        self.invalid_text(0, 2, read_named, NEST, lexicon, "e(e(e12))")

    def test_many_nodes(self):
        lexicon = (("s", "a"), ("t", "w", "e"))
        tree = (0,) + (1,) * 998 + (2,)
        text = "t(" + "w(" * 998 + "e" + ")" * 999
        self.same(named_tree(NEST, lexicon, tree), text)
        self.same(read_named(NEST, lexicon, text), tree)
        self.refused(TooMuch, ("tree",), read_named, NEST, lexicon, "t(" + "w(" * 999 + "e" + ")" * 1000)
        # What cannot stand there goes ahead.
        self.invalid_text(0, 3000, read_named, NEST, lexicon, "t(" + "w(" * 999 + "e" + ")" * 999)
        wide = (1, 0) * 499 + (0,)
        lexicon = (("s",), ("e", "p"))
        self.same(read_named(PAIRS, lexicon, named_tree(PAIRS, lexicon, wide)), wide)

    def test_parameters(self):
        good = {"book": NEST, "lexicon": LEX}
        bad = {"book": BAD_BOOKS, "lexicon": BAD_LEXICONS}
        self.asks(named_tree, dict(good, tree=(0, 1, 2)), dict(bad, tree=BAD_TREES))
        self.asks(read_named, dict(good, text="wrap(end)"), dict(bad, text=BAD_STRINGS))
        self.asks(book_text, good, bad)
        self.asks(tongue_text, dict(good, tongue=SPLIT), dict(bad, tongue=BAD_TONGUES))
        self.asks(read_tongue, dict(good, text=tongue_text(NEST, LEX, SPLIT)), dict(bad, text=BAD_STRINGS))
        self.asks(read_book, {"text": book_text(NEST, LEX)}, {"text": BAD_STRINGS})


class Books(Lines):

    def test_there_and_back(self):
        rng = random.Random(201)
        books = [NEST, PAIRS, DEAD, EMPTY, FOUR, NO_STARTS, NO_CONS] + [random_book(rng, most_kids=4) for _ in range(80)]
        for book in books:
            lexicon = any_lexicon(rng, book)
            text = book_text(book, lexicon)
            sorts, cons = lexicon
            due = [" ".join(("sorts",) + sorts), " ".join(["starts"] + [sorts[start] for start in book[1]])]
            for name, (result, kids) in zip(cons, book[2]):
                due.append(" ".join(["con", name, sorts[result]] + [sorts[kid] for kid in kids]))
            self.same(text, "\n".join(due))
            self.same(read_book(text), (book, lexicon))
            for _ in range(10):
                self.spoilt(rng, text)
        self.same(book_text(EMPTY, ((), ())), "sorts\nstarts")
        self.same(read_book("sorts\nstarts"), (EMPTY, ((), ())))

    def spoilt(self, rng, text):
        """The text with a field more, fewer or changed, or a line more or fewer: read back, or refused at a place in it."""
        lines = [line.split(" ") for line in text.split("\n")]
        line = rng.randrange(len(lines))
        at = rng.randrange(len(lines[line]) + 1)
        pick = rng.random()
        if pick < 0.2:
            lines.pop(line)
        elif pick < 0.3:
            lines.insert(line, rng.choice(lines))
        else:
            lines[line][at:at + rng.choice((0, 1))] = rng.choice(([], ["a"], ["e"], [""], ["Q"], ["con"], ["starts"]))
        other = "\n".join([" ".join(fields) for fields in lines])
        try:
            book, lexicon = read_book(other)
            lets_book(book)
            self.same(book_text(book, lexicon), other)
        except InvalidText as error:
            told = [row.split(" ") for row in other.split("\n")]
            self.assertTrue((error.line, error.field) == (len(told), 0) or error.field <= len(told[error.line]))

    def test_places(self):
        good = book_text(NEST, LEX)
        self.same(good, "sorts s a\nstarts s\ncon top s a\ncon wrap a a\ncon end a")
        for text, line, field in (
                ("", 0, 0), ("\n", 0, 0), ("sort s a", 0, 0), ("Sorts s", 0, 0), (" sorts s", 0, 0), ("sorts s s\nstarts", 0, 2),
                ("sorts s  a", 0, 2), ("sorts s a ", 0, 3), ("sorts 1", 0, 1), ("sorts S", 0, 1), ("sorts " + "x" * 17, 0, 1),
                ("sorts s a", 1, 0), ("sorts", 1, 0), ("sorts s\n", 1, 0), ("sorts s\nstart s", 1, 0), ("sorts s a\nstarts b", 1, 1),
                ("sorts s a\nstarts s s", 1, 2), ("sorts s a\nstarts a s", 1, 2), ("sorts s a\nstarts s ", 1, 2), ("sorts s a\nstarts s a a", 1, 3),
                ("sorts s a\nstarts s\n", 2, 0), (good + "\n", 5, 0), (good + "\ncon", 5, 1), (good + "\ncon top s", 5, 1),
                (good + "\ncon x", 5, 2), (good + "\ncon x b", 5, 2), (good + "\ncon x s b", 5, 3), (good + "\ncon x s ", 5, 3),
                (good + "\ncon x s s s s s s", 5, 7), (good + "\ncon x s s s s s b", 5, 7), (good + "\ncon x s s s s b b", 5, 6),
                (good + "\ncon 1x s", 5, 1), (good + "\ncon  s", 5, 1), (good + "\nconn x s", 5, 0), ("sorts s\nstarts\ncon a s\n\ncon b s", 3, 0),
                ("sorts s\nstarts x\ncon a b", 1, 1), ("sorts s s\nstarts x\ncon a b", 0, 2)):
            self.invalid_text(line, field, read_book, text)
        four = "sorts s\nstarts\ncon x s s s s s"
        self.same(read_book(four), ((1, (), ((0, (0, 0, 0, 0)),)), (("s",), ("x",))))
        # A constructor may have the name of a sort.
        self.same(read_book("sorts s\nstarts s\ncon s s"), ((1, (0,), ((0, ()),)), (("s",), ("s",))))


class Tongues(Lines):

    def test_there_and_back(self):
        rng = random.Random(202)
        ways = {}
        for book, tongues in tongue_samples(202, 40):
            lexicon = any_lexicon(rng, book)
            for tongue in tongues:
                ways[tongue[0]] = ways.get(tongue[0], 0) + 1
                text = tongue_text(book, lexicon, tongue)
                self.same(text.split("\n")[0].split(" ")[0], tongue[0])
                self.same(read_tongue(book, lexicon, text), tongue)
                for _ in range(6):
                    self.spoilt(rng, book, lexicon, text)
        self.assertEqual(len(ways), 4)
        for tongue in (SPLIT, WALK, MEAN, NET, HALT, ("walker", 1, ()), ("walker", 10 ** 59, ())):
            self.same(read_tongue(NEST, LEX, tongue_text(NEST, LEX, tongue)), tongue)
        for tongue in (("pieces", (), ()), ("functions", (), ()), ("walker", 3, ()), ("webs", (), ())):
            self.same(read_tongue(EMPTY, ((), ()), tongue_text(EMPTY, ((), ()), tongue)), tongue)

    def spoilt(self, rng, book, lexicon, text):
        """The text with a field more, fewer or changed, or a line more or fewer: read back, or refused at a place in it."""
        lines = [line.split(" ") for line in text.split("\n")]
        line = rng.randrange(len(lines))
        at = rng.randrange(len(lines[line]) + 1)
        pick = rng.random()
        if pick < 0.15:
            lines.pop(line)
        elif pick < 0.25:
            lines.insert(line, list(rng.choice(lines)))
        else:
            lines[line][at:at + rng.choice((0, 1))] = rng.choice(([], ["'a'"], ["0"], ["1"], [""], ["|"], ["-"], ["/"], ["0.0"], ["0-1"],
                                                                  ["100"], ["app"], ["var:0"], ["lam:100"], ["a"], ["00"]))
        other = "\n".join([" ".join(fields) for fields in lines])
        try:
            tongue = read_tongue(book, lexicon, other)
            lets_tongue(book, tongue)
            self.same(tongue_text(book, lexicon, tongue), other)
        except InvalidText as error:
            told = [row.split(" ") for row in other.split("\n")]
            self.assertTrue((error.line, error.field) == (len(told), 0) or error.field <= len(told[error.line]))

    def test_lines(self):
        self.same(tongue_text(NEST, LEX, SPLIT), "pieces\nwidth s 1\nwidth a 2\nsay top 0.0 0.1\nsay wrap 'a' 0.0 | 0.1 'b'\nsay end - | -")
        self.same(tongue_text(NEST, LEX, MEAN), "functions\nsort s 100\nsort a 100\nmean top lam:100 var:0\n"
                  "mean wrap lam:100 lam:0 app 'a' app var:1 app 'b' var:0\nmean end lam:0 var:0")
        self.same(tongue_text(NEST, LEX, WALK), "walker 1\nrule 0 top 0 1 0\nrule 0 top 1 0 0\nrule 0 wrap 0 1 0 'a'\n"
                  "rule 0 wrap 1 0 0 'b'\nrule 0 end 0 0 0")
        self.same(tongue_text(NEST, LEX, NET), "webs\nrank s 2\nrank a 2\nweb top 2 / 0 1 / / 0 1\n"
                  "web wrap 4 / 0 1 / 0-2 'a' 3-1 'b' / 2 3\nweb end 2 / 0 1 / 0-1")
        leaf = (1, (), ((0, ()),))
        self.same(tongue_text(leaf, (("s",), ("f",)), ("webs", (1,), ((1, (0,), (), ()),))), "webs\nrank s 1\nweb f 1 / 0 /")
        odd = ("pieces", (2,), ((("'"[1:] + "a|b", "-", "/", "0.0"), ()),))
        self.same(tongue_text(leaf, (("s",), ("f",)), odd), "pieces\nwidth s 2\nsay f 'a|b' '-' '/' '0.0' | -")
        self.same(read_tongue(leaf, (("s",), ("f",)), "pieces\nwidth s 2\nsay f 'a|b' '-' '/' '0.0' | -"), odd)
        self.same(tongue_text(NEST, LEX, ("walker", 2, ((1, 1, 1, ("x", "y"), 0, 0),))), "walker 2\nrule 1 wrap 1 0 0 'x' 'y'")

    def places(self, good, told):
        """Texts like good, with a line (a number) in the place of another; where they are refused."""
        lines = good.split("\n")
        for number, text, line, field in told:
            other = "\n".join(lines[:number] + [text] + lines[number + 1:])
            with self.subTest(text=text):
                self.invalid_text(line, field, read_tongue, NEST, LEX, other)

    def test_places_of_lines(self):
        for text in ("", "piece", "Pieces", " pieces", "\npieces", "walkers 1", "way"):
            self.invalid_text(0, 0, read_tongue, NEST, LEX, text)
        for tongue in (SPLIT, MEAN, NET):
            text = tongue_text(NEST, LEX, tongue)
            lines = text.split("\n")
            self.assertEqual(len(lines), 6)
            for many in range(1, 6):
                self.invalid_text(many, 0, read_tongue, NEST, LEX, "\n".join(lines[:many]))
            self.invalid_text(6, 0, read_tongue, NEST, LEX, text + "\n")
            self.invalid_text(6, 0, read_tongue, NEST, LEX, text + "\n\nx")
            self.invalid_text(0, 1, read_tongue, NEST, LEX, text.replace("\n", " \n", 1))
            self.invalid_text(0, 1, read_tongue, NEST, LEX, text.replace("\n", " 1\n", 1))
            # The due name, word by word.
            self.invalid_text(1, 1, read_tongue, NEST, LEX, "\n".join(lines[:1] + lines[2:3] + lines[1:2] + lines[3:]))
            self.invalid_text(4, 1, read_tongue, NEST, LEX, "\n".join(lines[:4] + lines[5:] + lines[4:5]))
            self.invalid_text(3, 0, read_tongue, NEST, LEX, "\n".join(lines[:3] + [""] + lines[3:]))
            # Two at once: line by line, then lines too many, then what is no tongue.
            self.invalid_text(2, 0, read_tongue, NEST, LEX, "\n".join(lines[:2] + ["x"] + lines[3:] + ["x"]))

    def test_places_of_pieces(self):
        self.places(tongue_text(NEST, LEX, SPLIT), (
            (1, "width s", 1, 2), (1, "width", 1, 1), (1, "width s x", 1, 2), (1, "width s 01", 1, 2), (1, "width s -1", 1, 2), (1, "width s +1", 1, 2), (1, "width s 1.", 1, 2),
            (1, "width s 1 1", 1, 3), (1, "width s 1 ", 1, 3), (1, "width  s 1", 1, 1), (1, "width t 1", 1, 1), (1, "rank s 1", 1, 0),
            (1, "width s " + "1" * 61, 1, 2), (1, "width s " + "1" * 60, 6, 0), (1, "width s 0", 6, 0), (1, "width s 2", 6, 0),
            (3, "say top", 3, 2), (3, "say", 3, 1), (3, "say top ", 3, 2), (3, "say top |", 3, 2), (3, "say top - -", 3, 3),
            (3, "say top - 0.0", 3, 3), (3, "say top 0.0 -", 3, 3), (3, "say top 0.0 |", 3, 4), (3, "say top 0.0 | | 0.1", 3, 4),
            (3, "say top 0.0 0.1 ", 3, 4), (3, "say top 0.00", 3, 2), (3, "say top 0.", 3, 2), (3, "say top .0", 3, 2), (3, "say top 0.0.0", 3, 2),
            (3, "say top 0-0", 3, 2), (3, "say top a", 3, 2), (3, "say top 'a", 3, 2), (3, "say top a'", 3, 2), (3, "say top ''", 3, 2),
            (3, "say top '", 3, 2), (3, "say top 'a''", 3, 2), (3, "say top '" + "x" * 17 + "'", 3, 2), (3, "say wrap 0.0 0.1", 3, 1),
            (3, "say top 0.0", 6, 0), (3, "say top 0.0 | 0.1", 6, 0), (3, "say top 0.0 0.0 0.1", 6, 0), (3, "say top 1.0 0.0 0.1", 6, 0),
            (3, "mean top 0.0 0.1", 3, 0), (3, "say top -", 6, 0)))

    def test_places_of_functions(self):
        self.places(tongue_text(NEST, LEX, MEAN), (
            (1, "sort s", 1, 2), (1, "sort s ", 1, 2), (1, "sort s 10", 1, 2), (1, "sort s 2", 1, 2), (1, "sort s 00", 1, 2), (1, "sort s 0", 6, 0),
            (1, "sort s 100 0", 1, 3), (1, "sort a 100", 1, 1), (1, "sort s 11000", 6, 0), (1, "width s 100", 1, 0),
            (3, "mean top", 3, 2), (3, "mean top ", 3, 2), (3, "mean top lam:1 var:0", 3, 2), (3, "mean top lam:100 var:", 3, 3),
            (3, "mean top lam:100 var:00", 3, 3), (3, "mean top lam:100 var:x", 3, 3), (3, "mean top lam:100 var0", 3, 3), (3, "mean top apps", 3, 2),
            (3, "mean top app", 6, 0), (3, "mean top lam: var:0", 3, 2), (3, "mean top 'a b'", 3, 2), (3, "mean top 'a'", 6, 0),
            (3, "mean top lam:100 var:0 var:0", 6, 0), (3, "mean top lam:100 var:1", 6, 0), (3, "mean top lam:100 var:0 ", 3, 4),
            (3, "mean top lam:100 var:" + "1" * 60, 6, 0), (3, "mean top lam:100 var:" + "1" * 61, 3, 3), (3, "mean top Lam:100", 3, 2)))

    def test_places_of_walkers(self):
        good = tongue_text(NEST, LEX, WALK)
        for text, line, field in (("walker", 0, 1), ("walker ", 0, 1), ("walker x", 0, 1), ("walker 01", 0, 1), ("walker 1 1", 0, 2), ("walker 1 ", 0, 2),
                                  ("walker 0", 1, 0), ("walker 1\n", 1, 0), ("walker 1\nrules", 1, 0), ("walker " + "1" * 61, 0, 1)):
            self.invalid_text(line, field, read_tongue, NEST, LEX, text)
        self.places(good, (
            (1, "rule", 1, 1), (1, "rule x top 0 1 0", 1, 1), (1, "rule 0", 1, 2), (1, "rule 0 s 0 1 0", 1, 2), (1, "rule 0 none 0 1 0", 1, 2),
            (1, "rule 0 top", 1, 3), (1, "rule 0 top x", 1, 3), (1, "rule 0 top 0", 1, 4), (1, "rule 0 top 0 x 0", 1, 4), (1, "rule 0 top 0 1", 1, 5),
            (1, "rule 0 top 0 1 -", 1, 5), (1, "rule 0 top 0 1 0 a", 1, 6), (1, "rule 0 top 0 1 0 'a' b", 1, 7), (1, "rule 0 top 0 1 0 ", 1, 6),
            (1, "", 1, 0), (1, "rule 0 top 0 1 0 'a' -", 1, 7), (1, "rule 1 top 0 1 0", 6, 0), (1, "rule 0 top 0 2 0", 6, 0), (1, "rule 0 top 1 1 0", 6, 0),
            (1, "rule 0 end 0 0 0", 6, 0)))
        self.invalid_text(6, 0, read_tongue, NEST, LEX, good + "\n")
        self.invalid_text(7, 0, read_tongue, NEST, LEX, good + "\nrule 0 end 0 0 0")
        # In a rule any constructor's name may stand; rules ascend by numbers.
        self.same(read_tongue(NEST, LEX, "walker 1\nrule 0 end 0 0 0"), ("walker", 1, ((0, 2, 0, (), 0, 0),)))

    def test_places_of_webs(self):
        self.places(tongue_text(NEST, LEX, NET), (
            (1, "rank s", 1, 2), (1, "rank s 02", 1, 2), (1, "rank s 2 2", 1, 3), (1, "rank s 1", 6, 0), (1, "width s 2", 1, 0),
            (3, "web", 3, 1), (3, "web top", 3, 2), (3, "web top x / 0 1 / / 0 1", 3, 2), (3, "web top 2", 3, 3), (3, "web top 2 0 1", 3, 3),
            (3, "web top 2 /", 3, 4), (3, "web top 2 / 0 1", 3, 6), (3, "web top 2 / 0 1 /", 3, 7), (3, "web top 2 / 0 1 / 0-1", 3, 8),
            (3, "web top 2 / 0 1 / / 0 1 /", 3, 10), (3, "web top 2 / 0 x / / 0 1", 3, 5), (3, "web top 2 / 0-1 / / 0 1", 3, 4),
            (3, "web top 2 / 0 1 / 'a' / 0 1", 3, 7), (3, "web top 2 / 0 1 / 0-1 'a' 0 / 0 1", 3, 9), (3, "web top 2 / 0 'a' / / 0 1", 3, 5),
            (3, "web top 2 / 0 1 / / 0 'a'", 3, 9), (3, "web top 2 / 0 1 / / 0-1", 3, 8), (3, "web top 2 / 0 1 / 0- / 0 1", 3, 7),
            (3, "web top 2 / 0 1 / 0-1-0 / 0 1", 3, 7), (3, "web top 2 / 0 1 / 0.1 / 0 1", 3, 7), (3, "web top 2 / 0 1 / / 0 1 ", 3, 10),
            (3, "web top 2 / / / 0 1", 6, 0), (3, "web top 2 / 0 1 / /", 6, 0), (3, "web top 2 / 0 1 0 / / 0 1", 6, 0), (3, "web top 2 / 0 2 / / 0 1", 6, 0),
            (3, "web top 0 / 0 1 / / 0 1", 6, 0), (3, "web top 2 / 0 1 / 0-0 / 0 1", 6, 0), (3, "web top 2 / 0 1 / 0-2 / 0 1", 6, 0),
            (5, "web end 2 / 0 1 / / 0", 5, 7), (5, "web end 2 / 0 1", 5, 6)))

    def test_parameters_ahead_of_texts(self):
        self.not_usable("lexicon", read_tongue, NEST, (LEX[0], LEX[1][:2]), "nonsense")
        with self.assertRaises(TongueError):
            read_tongue(NEST, LEX, start_trees(NEST, 2))


if __name__ == "__main__":
    unittest.main()
