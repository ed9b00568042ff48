"""Fields of lines: words in quotes, slots, types and the like, told and read.

What reads a field returns None if the field does not tell such a thing.
"""

from everytongue.ftypes import is_type
from everytongue.kinds import is_word
from everytongue.treelines import field_number


def quoted(word):
    """The word in quotes."""
    return "'" + word + "'"


def quoted_words(words):
    """The words, each in quotes, as fields."""
    return [quoted(word) for word in words]


def read_word(field):
    """The word that stands in quotes."""
    if len(field) > 2 and field[0] == "'" and field[-1] == "'" and is_word(field[1:-1]):
        return field[1:-1]
    return None


def read_number(field):
    """The number that the field tells."""
    number = field_number(field)
    return None if number == -1 else number


def read_pair(field, sign):
    """The pair of numbers that stand on both sides of the sign."""
    numbers = tuple([field_number(part) for part in field.split(sign)])
    return numbers if len(numbers) == 2 and -1 not in numbers else None


def figures(ftype):
    """The numbers of the type, one behind the other."""
    return "".join([str(sign) for sign in ftype])


def read_type(field):
    """The type whose numbers the field tells."""
    if not all([figure in "01" for figure in field]):
        return None
    ftype = tuple([int(figure) for figure in field])
    return ftype if is_type(ftype) else None


def text_lines(text):
    """The lists of the fields of each line."""
    return [line.split(" ") for line in text.split("\n")]
