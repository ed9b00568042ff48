"""Libraries: books and tongues by name."""

from everytongue.bookreadings import told_book
from everytongue.errors import InUse, NoSuch, NothingToUndo, Taken
from everytongue.kinds import is_integer
from everytongue.lexicons import is_name
from everytongue.refusing import require
from everytongue.tonguereadings import told_tongue


class Library:
    """Books and tongues by name, with the deeds that put them in."""

    def __init__(self):
        # By name: the text, what is read from it, and the number of the deed that put the book in.
        self._books = {}
        self._tongues = {}
        # Each deed with both as they were before it.
        self._deeds = []

    def put_book(self, name, text):
        """Put in the book that text tells."""
        require(is_name(name), "name")
        require(isinstance(text, str), "text")
        self._refuse_taken(name)
        entry = (text, told_book(text), len(self._deeds))
        self._note(("put_book", name, text))
        self._books[name] = entry

    def put_tongue(self, name, book_name, text):
        """Put in the tongue of a book that text tells."""
        require(is_name(name), "name")
        require(is_name(book_name), "book_name")
        require(isinstance(text, str), "text")
        if book_name not in self._books:
            raise NoSuch(book_name)
        self._refuse_taken(name)
        _, (book, lexicon), number = self._books[book_name]
        entry = (text, told_tongue(book, lexicon, text), number)
        self._note(("put_tongue", name, book_name, text))
        self._tongues[name] = entry

    def drop(self, name):
        """Take out a tongue, or a book without tongues."""
        require(is_name(name), "name")
        self._refuse_missing(name)
        if name in self._books:
            number = self._books[name][2]
            if any([entry[2] == number for entry in self._tongues.values()]):
                raise InUse(name)
        self._note(("drop", name))
        if name in self._books:
            del self._books[name]
        else:
            del self._tongues[name]

    def rename(self, name, new):
        """Give a book or a tongue a new name."""
        require(is_name(name), "name")
        require(is_name(new), "new")
        self._refuse_missing(name)
        self._refuse_taken(new)
        self._note(("rename", name, new))
        if name in self._books:
            self._books[new] = self._books.pop(name)
        else:
            self._tongues[new] = self._tongues.pop(name)

    def undo(self, steps):
        """Take back the last deeds, so many."""
        require(is_integer(steps) and steps >= 1, "steps")
        if steps > len(self._deeds):
            raise NothingToUndo(len(self._deeds))
        _, self._books, self._tongues = self._deeds[-steps]
        self._deeds = self._deeds[:-steps]

    def text_of(self, name):
        """The text that was put in."""
        require(is_name(name), "name")
        self._refuse_missing(name)
        return self._books[name][0] if name in self._books else self._tongues[name][0]

    def names(self):
        """The ascending tuple of the names."""
        return tuple(sorted(list(self._books) + list(self._tongues)))

    def book_of(self, name):
        """The book, or that of the tongue, with its lexicon."""
        require(is_name(name), "name")
        self._refuse_missing(name)
        if name in self._books:
            return self._books[name][1]
        number = self._tongues[name][2]
        return [entry[1] for entry in self._books.values() if entry[2] == number][0]

    def tongue_of(self, name):
        """The tongue."""
        require(is_name(name), "name")
        if name not in self._tongues:
            raise NoSuch(name)
        return self._tongues[name][1]

    def log(self):
        """The tuple of the deeds that stand."""
        return tuple([deed for deed, _, _ in self._deeds])

    def __eq__(self, other):
        """Whether other is a Library with the same deeds."""
        return isinstance(other, Library) and self.log() == other.log()

    def _refuse_taken(self, name):
        """Refuse a name that something has."""
        if name in self._books or name in self._tongues:
            raise Taken(name)

    def _refuse_missing(self, name):
        """Refuse a name that nothing has."""
        if name not in self._books and name not in self._tongues:
            raise NoSuch(name)

    def _note(self, deed):
        """Note a deed that is to be done, with what to go back to."""
        self._deeds.append((deed, dict(self._books), dict(self._tongues)))
