"""Libraries and the desk [110] to [112]."""

import random
import unittest

from everytongue.alike import alike
from everytongue.bookreadings import read_book
from everytongue.booktexts import book_text
from everytongue.desk import desk_line
from everytongue.errors import InUse, InvalidText, NoSuch, NothingToUndo, NotUsable, Taken, TongueError, TooMuch
from everytongue.lexicons import named_tree
from everytongue.library import Library
from everytongue.readings import count_readings
from everytongue.speaking import says
from everytongue.tonguereadings import read_tongue
from everytongue.tonguetexts import tongue_text
from asking import Asking
from samples import MEAN, NEST, PAIRS, SPLIT, WALK, power_book, silent_tongue, start_trees
from waysamples import HALT, NET

LEX = (("s", "a"), ("top", "wrap", "end"))
BOOK = book_text(NEST, LEX)
TEXTS = {tongue[0]: tongue_text(NEST, LEX, tongue) for tongue in (SPLIT, WALK, MEAN, NET)}
PAIRS_LEX = (("s",), ("leaf", "pair"))
PAIRS_TEXT = book_text(PAIRS, PAIRS_LEX)
BINARY = ("pieces", (1,), ((("x",),), (((0, 0), (1, 0)),)))
BINARY_TEXT = tongue_text(PAIRS, PAIRS_LEX, BINARY)
BAD_NAMES = (None, "", "A", "1a", "a b", "x" * 17, 1, True, ("a",), "a\n")
BAD_STRINGS = (None, 1, (), ("a",), True)


class Record:
    """An own record of a library's deeds: all that stand, gone through anew for each question."""

    def __init__(self):
        self.deeds = []

    def things(self):
        """By name: the text, the book's name or None, told from the deeds."""
        found = {}
        for deed in self.deeds:
            if deed[0] == "put_book":
                found[deed[1]] = [deed[2], None]
            elif deed[0] == "put_tongue":
                found[deed[1]] = [deed[3], deed[2]]
            elif deed[0] == "drop":
                del found[deed[1]]
            else:
                found[deed[2]] = found.pop(deed[1])
                for thing in found.values():
                    if thing[1] == deed[1]:
                        thing[1] = deed[2]
        return found

    def fault(self, deed):
        """The error that the deed raises, with its fields, or None."""
        found = self.things()
        word, name = deed[:2]
        if word == "put_book":
            if name in found:
                return Taken, (name,)
            return self.reading(lambda: read_book(deed[2]))
        if word == "put_tongue":
            if deed[2] not in found or found[deed[2]][1] is not None:
                return NoSuch, (deed[2],)
            if name in found:
                return Taken, (name,)
            return self.reading(lambda: read_tongue(*read_book(found[deed[2]][0]), deed[3]))
        if name not in found:
            return NoSuch, (name,)
        if word == "drop":
            return (InUse, (name,)) if [thing for thing in found.values() if thing[1] == name] else None
        return (Taken, (deed[2],)) if deed[2] in found else None

    def reading(self, read):
        """The error that reading raises, with its fields, or None."""
        try:
            read()
        except InvalidText as error:
            return InvalidText, (error.line, error.field)
        return None


class Libraries(Asking):

    def compare(self, library, record):
        """The library tells what the record tells."""
        found = record.things()
        self.same(library.log(), tuple(record.deeds))
        self.same(library.names(), tuple(sorted(found)))
        for name in ("a", "b", "c", "d", "e"):
            if name not in found:
                for method in (library.text_of, library.book_of, library.tongue_of):
                    self.refused(NoSuch, (name,), method, name)
                continue
            text, book_name = found[name]
            self.same(library.text_of(name), text)
            if book_name is None:
                self.same(library.book_of(name), read_book(text))
                self.refused(NoSuch, (name,), library.tongue_of, name)
            else:
                told = read_book(found[book_name][0])
                self.same(library.book_of(name), told)
                self.same(library.tongue_of(name), read_tongue(*told, text))
        other = Library()
        for deed in library.log():
            self.same(getattr(other, deed[0])(*deed[1:]), None)
        self.assertTrue(other == library and not other != library)
        self.same(other.names(), library.names())

    def test_deeds_and_undos(self):
        rng = random.Random(220)
        done = {}
        for _ in range(60):
            library, record = Library(), Record()
            for _ in range(25):
                pick = rng.random()
                names = [rng.choice("abcde") for _ in range(2)]
                if pick < 0.15:
                    steps = rng.randint(1, 4)
                    if steps > len(record.deeds):
                        self.refused(NothingToUndo, (len(record.deeds),), library.undo, steps)
                    else:
                        self.same(library.undo(steps), None)
                        record.deeds = record.deeds[:-steps]
                    self.compare(library, record)
                    continue
                if pick < 0.4:
                    deed = ("put_book", names[0], rng.choice((BOOK, BOOK, PAIRS_TEXT, "sorts\n")))
                elif pick < 0.75:
                    deed = ("put_tongue", names[0], names[1], rng.choice(list(TEXTS.values()) + [BINARY_TEXT]))
                elif pick < 0.87:
                    deed = ("drop", names[0])
                else:
                    deed = ("rename", names[0], names[1])
                fault = record.fault(deed)
                if fault is None:
                    self.same(getattr(library, deed[0])(*deed[1:]), None)
                    record.deeds.append(deed)
                else:
                    self.refused(fault[0], fault[1], getattr(library, deed[0]), *deed[1:])
                done[(deed[0], fault and fault[0].__name__)] = True
                self.compare(library, record)
        self.assertEqual(set(done), {("put_book", None), ("put_book", "Taken"), ("put_book", "InvalidText"), ("put_tongue", None),
                                     ("put_tongue", "NoSuch"), ("put_tongue", "Taken"), ("put_tongue", "InvalidText"), ("drop", None),
                                     ("drop", "NoSuch"), ("drop", "InUse"), ("rename", None), ("rename", "NoSuch"), ("rename", "Taken")})

    def filled(self):
        """A library with a book and two tongues of it."""
        library = Library()
        library.put_book("nest", BOOK)
        library.put_tongue("split", "nest", TEXTS["pieces"])
        library.put_tongue("walk", "nest", TEXTS["walker"])
        return library

    def test_edges(self):
        library = Library()
        self.same((library.names(), library.log()), ((), ()))
        self.refused(NothingToUndo, (0,), library.undo, 1)
        self.assertTrue(Library() == Library())
        library = self.filled()
        self.same(library.names(), ("nest", "split", "walk"))
        self.refused(InUse, ("nest",), library.drop, "nest")
        # Tongues keep their book, whatever name it has, and whatever has its name.
        library.rename("nest", "book")
        self.same(library.book_of("split"), (NEST, LEX))
        library.put_book("nest", PAIRS_TEXT)
        self.same(library.book_of("split"), (NEST, LEX))
        library.drop("nest")
        self.refused(InUse, ("book",), library.drop, "book")
        library.drop("split")
        library.drop("walk")
        library.drop("book")
        self.same(library.names(), ())
        self.same(len(library.log()), 9)
        self.refused(NothingToUndo, (9,), library.undo, 10)
        self.refused(NothingToUndo, (9,), library.undo, 10 ** 59)
        library.undo(4)
        self.same(library.names(), ("book", "nest", "split", "walk"))
        self.same((library.book_of("walk"), library.book_of("nest")), ((NEST, LEX), (PAIRS, PAIRS_LEX)))
        library.undo(steps=3)
        self.same(library.names(), ("nest", "split"))
        library.undo(2)
        self.same(library.log(), ())

    def test_order_of_errors(self):
        library = self.filled()
        self.refused(Taken, ("nest",), library.put_book, "nest", "nonsense")
        self.refused(Taken, ("split",), library.put_book, "split", BOOK)
        self.refused(InvalidText, (0, 0), library.put_book, "other", "nonsense")
        self.refused(NoSuch, ("none",), library.put_tongue, "nest", "none", "nonsense")
        self.refused(NoSuch, ("split",), library.put_tongue, "split", "split", "nonsense")
        self.refused(Taken, ("nest",), library.put_tongue, "nest", "nest", "nonsense")
        self.refused(Taken, ("walk",), library.put_tongue, "walk", "nest", "nonsense")
        self.refused(InvalidText, (0, 0), library.put_tongue, "other", "nest", "nonsense")
        self.refused(NoSuch, ("none",), library.rename, "none", "none")
        self.refused(NoSuch, ("none",), library.rename, "none", "nest")
        self.refused(Taken, ("nest",), library.rename, "nest", "nest")
        self.refused(Taken, ("walk",), library.rename, "split", "walk")
        self.same(len(library.log()), 3)
        self.assertTrue(library == self.filled())

    def test_equal(self):
        library = self.filled()
        self.assertTrue(library == self.filled())
        self.assertFalse(library != self.filled())
        library.drop("walk")
        self.assertFalse(library == self.filled())
        library.put_tongue("walk", "nest", TEXTS["walker"])
        # The same things by other deeds.
        self.assertFalse(library == self.filled())
        library.undo(2)
        self.assertTrue(library == self.filled())
        for other in (None, (), library.log(), "library", Library, 0):
            self.assertFalse(library == other)
            self.assertTrue(library != other)
        self.assertFalse(Library() == ())

    def test_parameters(self):
        library = self.filled()
        good = {"put_book": {"name": "x", "text": BOOK}, "put_tongue": {"name": "x", "book_name": "nest", "text": TEXTS["pieces"]},
                "drop": {"name": "walk"}, "rename": {"name": "walk", "new": "x"}, "undo": {"steps": 1}, "text_of": {"name": "walk"},
                "book_of": {"name": "walk"}, "tongue_of": {"name": "walk"}}
        bad = {"name": BAD_NAMES, "book_name": BAD_NAMES, "new": BAD_NAMES, "text": BAD_STRINGS, "steps": (0, -1, True, None, "1", (1,))}
        for word, args in good.items():
            names = list(args)
            for k, name in enumerate(names):
                for value in bad[name]:
                    self.not_usable(name, getattr(library, word), **dict(args, **{name: value}))
                    self.not_usable(name, getattr(library, word), *dict(args, **{name: value}).values())
                    for other in names[k + 1:]:
                        self.not_usable(name, getattr(library, word), **dict(args, **{name: value, other: bad[other][0]}))
            # What is not as stated goes ahead of what is missing or taken.
            if word == "put_tongue":
                self.not_usable("text", library.put_tongue, "nest", "none", None)
            if word == "rename":
                self.not_usable("new", library.rename, "none", "A")
            self.assertTrue(library == self.filled())
        for word in ("text_of", "book_of", "tongue_of"):
            self.same(getattr(library, word)(**good[word]), getattr(library, word)("walk"))
        library.put_book(**good["put_book"])
        library.undo(**good["undo"])
        library.put_tongue(**good["put_tongue"])
        library.rename(name="x", new="y")
        library.drop(name="y")
        self.same(library.names(), ("nest", "split", "walk"))


class Desk(Asking):

    def library(self):
        """A library of two books with tongues."""
        library = Library()
        library.put_book("nest", BOOK)
        for word, text in TEXTS.items():
            library.put_tongue(word, "nest", text)
        library.put_tongue("halt", "nest", tongue_text(NEST, LEX, HALT))
        library.put_book("pairs", PAIRS_TEXT)
        library.put_tongue("binary", "pairs", BINARY_TEXT)
        library.put_book("again", BOOK)
        library.put_tongue("split", "again", TEXTS["pieces"])
        return library

    def test_deeds(self):
        library, other = self.library(), self.library()
        self.same(desk_line(library, "drop halt"), "done")
        other.drop("halt")
        self.same(desk_line(library, "rename nest book"), "done")
        other.rename("nest", "book")
        self.assertTrue(library == other)
        self.same(desk_line(library=library, line="undo 2"), "done")
        self.assertTrue(library == self.library())
        self.refused(InUse, ("nest",), desk_line, library, "drop nest")
        self.refused(NoSuch, ("none",), desk_line, library, "drop none")
        self.refused(Taken, ("pairs",), desk_line, library, "rename nest pairs")
        self.refused(NothingToUndo, (10,), desk_line, library, "undo 11")
        self.refused(NothingToUndo, (10,), desk_line, library, "undo " + "9" * 60)
        self.not_usable("steps", desk_line, library, "undo 0")
        self.assertTrue(library == self.library())

    def test_say(self):
        library = self.library()
        for word, tongue in (("pieces", SPLIT), ("walker", WALK), ("functions", MEAN), ("webs", NET), ("halt", HALT), ("split", SPLIT)):
            for tree in start_trees(NEST, 5):
                words = says(NEST, tongue, tree)
                due = "unsaid" if words is None else " ".join(["'" + told + "'" for told in words])
                self.same(desk_line(library, f"say {word} {named_tree(NEST, LEX, tree)}"), due)
        self.same(desk_line(library, "say pieces top(end)"), "")
        self.same(desk_line(library, "say halt top(wrap(end))"), "unsaid")
        self.same(desk_line(library, "say binary pair(leaf, pair(leaf, leaf))"), "'x' 'x' 'x'")
        self.not_usable("start_tree", desk_line, library, "say pieces wrap(end)")
        self.refused(NoSuch, ("none",), desk_line, library, "say none top(end)")
        self.refused(NoSuch, ("nest",), desk_line, library, "say nest nonsense")
        for tree, at in (("", 0), (" ", 0), ("top(end) ", 8), ("top (end)", 3), ("leaf", 0), ("pair(leaf,leaf)", 0)):
            self.refused(InvalidText, (0, at), desk_line, library, "say pieces " + tree)
        self.refused(InvalidText, (0, 10), desk_line, library, "say binary pair(leaf,leaf)")
        self.refused(TooMuch, ("tree",), desk_line, library, "say pieces top(" + "wrap(" * 999 + "end" + ")" * 1000)

    def test_count(self):
        library = self.library()
        self.same(desk_line(library, "count pieces"), "1")
        self.same(desk_line(library, "count pieces 'a' 'b'"), "1")
        self.same(desk_line(library, "count pieces 'a'"), "0")
        for many in range(1, 9):
            self.same(desk_line(library, "count binary" + " 'x'" * many), str(count_readings(PAIRS, BINARY, ("x",) * many)))
        self.refused(NoSuch, ("nest",), desk_line, library, "count nest 'a'")
        library.put_book("round", "sorts s\nstarts s\ncon e s\ncon r s s")
        library.put_tongue("said", "round", "pieces\nwidth s 1\nsay e 'a'\nsay r 0.0")
        self.same(desk_line(library, "count said 'a'"), "endless")
        self.same(desk_line(library, "count said"), "0")
        for many in (39, 40):
            # Ten to the power of a hundred times so many.
            book = power_book(100 * many)
            lexicon = (tuple([f"s{k}" for k in range(book[0])]), tuple([f"c{k}" for k in range(len(book[2]))]))
            library.put_book(f"b{many}", book_text(book, lexicon))
            library.put_tongue(f"t{many}", f"b{many}", tongue_text(book, lexicon, silent_tongue(book)))
            if many == 39:
                self.same(desk_line(library, "count t39"), "1" + "0" * 3900)
            else:
                self.refused(TooMuch, ("count",), desk_line, library, "count t40")

    def test_alike(self):
        library = self.library()
        for one in ("pieces", "walker", "functions", "webs"):
            for other in ("pieces", "walker", "functions", "webs"):
                self.same(desk_line(library, f"alike {one} {other}"), "alike")
            self.same(desk_line(library, f"alike {one} halt"), "part top(wrap(end))")
        self.same(alike(NEST, SPLIT, HALT, ("same",)), ("part", (0, 1, 2)))
        # A tongue of an equal book, under another name; one of another book.
        self.same(desk_line(library, "alike pieces split"), "alike")
        self.refused(NoSuch, ("binary",), desk_line, library, "alike pieces binary")
        self.refused(NoSuch, ("pieces",), desk_line, library, "alike binary pieces")
        self.refused(NoSuch, ("none",), desk_line, library, "alike none nobody")
        self.refused(NoSuch, ("nobody",), desk_line, library, "alike pieces nobody")
        self.refused(NoSuch, ("nest",), desk_line, library, "alike pieces nest")
        # The same book with other names is another one.
        library.put_book("named", BOOK.replace("wrap", "warp"))
        library.put_tongue("spilt", "named", TEXTS["pieces"].replace("wrap", "warp"))
        self.refused(NoSuch, ("spilt",), desk_line, library, "alike pieces spilt")

    def test_places(self):
        library = self.library()
        for line, field in (("", 0), (" ", 0), ("dropp halt", 0), ("Drop halt", 0), (" drop halt", 0), ("drop", 1), ("drop ", 1), ("drop Halt", 1),
                            ("drop halt ", 2), ("drop halt now", 2), ("drop  halt", 1), ("rename", 1), ("rename nest", 2), ("rename nest ", 2),
                            ("rename nest B", 2), ("rename N B", 1), ("rename nest b c", 3), ("undo", 1), ("undo x", 1), ("undo -1", 1),
                            ("undo 01", 1), ("undo +1", 1), ("undo 1 1", 2), ("undo " + "1" * 61, 1), ("undo ", 1), ("undo 1 ", 2),
                            ("say", 1), ("say ", 1), ("say pieces", 2), ("say Pieces top(end)", 1), ("say none", 2), ("say  top(end)", 1),
                            ("count", 1), ("count 'a'", 1), ("count pieces a", 2), ("count pieces ''", 2), ("count pieces 'a' ", 3),
                            ("count pieces 'a'  'b'", 3), ("count pieces 'a' b", 3), ("count none 'a", 2), ("alike", 1), ("alike pieces", 2),
                            ("alike pieces 'a'", 2), ("alike pieces walker halt", 3), ("alike pieces walker ", 3), ("alike none", 2),
                            ("log", 0), ("put_book x", 0)):
            self.refused(InvalidText, (0, field), desk_line, library, line)
            self.assertTrue(library == self.library())

    def test_parameters(self):
        for library in (None, (), "library", Library, 0):
            self.not_usable("library", desk_line, library, "drop x")
            self.not_usable("library", desk_line, library, None)
        for line in BAD_STRINGS:
            self.not_usable("line", desk_line, Library(), line)
            self.not_usable("line", desk_line, line=line, library=Library())
        with self.assertRaises(TongueError) as caught:
            desk_line(Library(), "undo 0")
        self.assertIs(type(caught.exception), NotUsable)


if __name__ == "__main__":
    unittest.main()
