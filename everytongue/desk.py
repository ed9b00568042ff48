"""A desk at which a library is asked in lines."""

from everytongue.alike import alike
from everytongue.errors import InvalidText, NoSuch
from everytongue.fields import quoted_words, read_number, read_word
from everytongue.lexicons import is_name, named_tree, read_named
from everytongue.library import Library
from everytongue.readings import count_readings
from everytongue.refusing import require
from everytongue.speaking import says


def desk_line(library, line):
    """The answer to a line."""
    require(isinstance(library, Library), "library")
    require(isinstance(line, str), "line")
    fields = line.split(" ")
    fault = line_fault(fields)
    if fault != -1:
        raise InvalidText(0, fault)
    word = fields[0]
    if word == "say":
        return said_answer(library, fields[1], line[len(fields[1]) + 5:])
    if word == "count":
        return count_answer(library, fields[1], tuple([read_word(field) for field in fields[2:]]))
    if word == "alike":
        return alike_answer(library, fields[1], fields[2])
    if word == "drop":
        library.drop(fields[1])
    elif word == "rename":
        library.rename(fields[1], fields[2])
    else:
        library.undo(read_number(fields[1]))
    return "done"


def line_fault(fields):
    """The first field that cannot stand there by its form, or how many there are; -1 if all can."""
    word = fields[0]
    if word not in ("drop", "rename", "undo", "say", "count", "alike"):
        return 0
    due = 3 if word in ("rename", "alike", "say") else 2
    for k in range(1, len(fields)):
        if word == "say" and k == 2:
            # All that stands here and behind is the tree.
            return -1
        if not can_stand(word, k, due, fields[k]):
            return k
    return -1 if len(fields) >= due else len(fields)


def can_stand(word, k, due, field):
    """Whether the field can stand at place k of a line that begins with word and has so many fields due."""
    if word == "count" and k >= due:
        return read_word(field) is not None
    if word == "undo" and k == 1:
        return read_number(field) is not None
    return k < due and is_name(field)


def said_answer(library, name, text):
    """What the tongue says of the tree that text tells."""
    tongue = library.tongue_of(name)
    book, lexicon = library.book_of(name)
    words = says(book, tongue, read_named(book, lexicon, text))
    return "unsaid" if words is None else " ".join(quoted_words(words))


def count_answer(library, name, words):
    """How many readings of words the tongue has."""
    tongue = library.tongue_of(name)
    many = count_readings(library.book_of(name)[0], tongue, words)
    return "endless" if many is None else str(many)


def alike_answer(library, name, other):
    """Whether two tongues of one book say the same, or where they part."""
    tongue, other_tongue = library.tongue_of(name), library.tongue_of(other)
    book, lexicon = library.book_of(name)
    if library.book_of(other) != (book, lexicon):
        raise NoSuch(other)
    word, told = alike(book, tongue, other_tongue, ("same",))
    return "alike" if word == "alike" else "part " + named_tree(book, lexicon, told)
