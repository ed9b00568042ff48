"""Books read from lines."""

from everytongue.errors import InvalidText
from everytongue.fields import text_lines
from everytongue.lexicons import is_name
from everytongue.refusing import require


def read_book(text):
    """The book that text tells, and its lexicon."""
    require(isinstance(text, str), "text")
    return told_book(text)


def told_book(text):
    """What read_book returns."""
    lines = text_lines(text)
    refuse_field(0, sorts_fault(lines[0]))
    if len(lines) == 1:
        raise InvalidText(1, 0)
    numbers = {name: sort for sort, name in enumerate(lines[0][1:])}
    refuse_field(1, starts_fault(lines[1], numbers))
    names = {}
    cons = []
    for line, fields in enumerate(lines[2:]):
        refuse_field(line + 2, con_fault(fields, numbers, names))
        names[fields[1]] = True
        cons.append((numbers[fields[2]], tuple([numbers[kid] for kid in fields[3:]])))
    starts = tuple([numbers[start] for start in lines[1][1:]])
    return (len(numbers), starts, tuple(cons)), (tuple(lines[0][1:]), tuple(names))


def refuse_field(line, field):
    """Refuse the text if a field of this line, -1 if none is told, cannot stand there."""
    if field != -1:
        raise InvalidText(line, field)


def sorts_fault(fields):
    """The first field of the line of sorts that cannot stand there, or -1."""
    if fields[0] != "sorts":
        return 0
    seen = {}
    for k, name in enumerate(fields[1:]):
        if not is_name(name) or name in seen:
            return k + 1
        seen[name] = True
    return -1


def starts_fault(fields, numbers):
    """The first field of the line of start sorts that cannot stand there, or -1."""
    if fields[0] != "starts":
        return 0
    last = -1
    for k, name in enumerate(fields[1:]):
        if numbers.get(name, -1) <= last:
            return k + 1
        last = numbers[name]
    return -1


def con_fault(fields, numbers, names):
    """The first field of a constructor's line that cannot stand there, or -1; names are taken."""
    if fields[0] != "con":
        return 0
    if len(fields) == 1 or not is_name(fields[1]) or fields[1] in names:
        return 1
    if len(fields) == 2:
        return 2
    for k, name in enumerate(fields[2:]):
        # The result, then at most four kids.
        if name not in numbers or k == 5:
            return k + 2
    return -1
