"""Tongues read from lines.

What reads a line returns a pair: the first field that cannot stand there by its form, how
many there are if the line ends too soon, or -1; then what the line tells.
"""

from everytongue.bookreadings import refuse_field
from everytongue.checkers import is_book
from everytongue.errors import InvalidText
from everytongue.fields import read_number, read_pair, read_type, read_word, text_lines
from everytongue.lexicons import is_lexicon_of
from everytongue.refusing import require
from everytongue.tonguechecker import is_tongue

SORT_WORDS = {"pieces": "width", "functions": "sort", "webs": "rank"}


def read_tongue(book, lexicon, text):
    """The tongue that text tells."""
    require(is_book(book), "book")
    require(is_lexicon_of(book, lexicon), "lexicon")
    require(isinstance(text, str), "text")
    return told_tongue(book, lexicon, text)


def told_tongue(book, lexicon, text):
    """What read_tongue returns."""
    lines = text_lines(text)
    way = lines[0][0]
    if way == "walker":
        tongue = told_walker(lexicon, lines)
    elif way in SORT_WORDS:
        tongue = told_lines(book, lexicon, way, lines)
    else:
        raise InvalidText(0, 0)
    if not is_tongue(book, tongue):
        raise InvalidText(len(lines), 0)
    return tongue


def told_walker(lexicon, lines):
    """What the lines of a walker tell."""
    states = told_field(lines[0], 1, read_number)
    refuse_field(0, misfit(lines[0], [states]))
    rules = []
    for line, fields in enumerate(lines[1:]):
        fault, rule = told_rule(lexicon, fields)
        refuse_field(line + 1, fault)
        rules.append(rule)
    return ("walker", states, tuple(rules))


def told_lines(book, lexicon, way, lines):
    """What the lines of a tongue tell that has a line for each sort and each constructor."""
    refuse_field(0, misfit(lines[0], []))
    sorts, cons = lexicon
    ahead = len(sorts) + 1
    told = []
    for line, name in enumerate(sorts + cons):
        if line + 1 == len(lines):
            raise InvalidText(line + 1, 0)
        fields = lines[line + 1]
        if line + 1 < ahead:
            fault, value = sort_line(way, name, fields)
        else:
            fault, value = con_line(way, name, len(book[2][line + 1 - ahead][1]), fields)
        refuse_field(line + 1, fault)
        told.append(value)
    if len(lines) > ahead + len(cons):
        raise InvalidText(ahead + len(cons), 0)
    return (way, tuple(told[:len(sorts)]), tuple(told[len(sorts):]))


def told_field(fields, k, read):
    """What the field k tells, None if it is missing."""
    return read(fields[k]) if k < len(fields) else None


def misfit(fields, told):
    """The first field behind field 0 of which told has None, or that is too much; -1 if there is none."""
    for k, value in enumerate(told):
        if value is None:
            return k + 1
    return -1 if len(fields) == len(told) + 1 else len(told) + 1


def name_fault(fields, word, name):
    """0 or 1 if these fields are not the word and the name, or else -1."""
    if fields[0] != word:
        return 0
    return -1 if len(fields) > 1 and fields[1] == name else 1


def sort_line(way, name, fields):
    """The width, type or rank of a sort with this name."""
    fault = name_fault(fields, SORT_WORDS[way], name)
    if fault != -1:
        return fault, None
    value = told_field(fields, 2, read_type if way == "functions" else read_number)
    return misfit(fields, [name, value]), value


def con_line(way, name, kids, fields):
    """The row or term of a constructor with this name and so many kids."""
    words = {"pieces": "say", "functions": "mean", "webs": "web"}
    fault = name_fault(fields, words[way], name)
    if fault != -1:
        return fault, None
    if way == "pieces":
        return told_row(fields)
    if way == "functions":
        return told_term(fields)
    return told_web(kids, fields)


def told_row(fields):
    """The row of pieces behind a constructor's name."""
    row = [[]]
    # What stood before: nothing of this piece, the sign of an empty one, or a part of it.
    before = ""
    for k, field in enumerate(fields[2:]):
        item = read_word(field) or read_pair(field, ".")
        if field == "|" and before:
            row.append([])
            before = ""
        elif field == "-" and not before:
            before = "-"
        elif item is not None and before != "-":
            row[-1].append(item)
            before = "item"
        else:
            return k + 2, None
    if not before:
        return len(fields), None
    return -1, tuple([tuple(piece) for piece in row])


def told_term(fields):
    """The term behind a constructor's name."""
    tokens = []
    for k, field in enumerate(fields[2:]):
        token = told_token(field)
        if token is None:
            return k + 2, None
        tokens.append(token)
    return (-1 if tokens else 2), tuple(tokens)


def told_token(field):
    """The token that the field tells, None if it tells none."""
    if field == "app":
        return ("app",)
    word, value = "word", read_word(field)
    if field[:4] == "var:":
        word, value = "var", read_number(field[4:])
    elif field[:4] == "lam:":
        word, value = "lam", read_type(field[4:])
    return None if value is None else (word, value)


def told_rule(lexicon, fields):
    """The rule that a line tells."""
    if fields[0] != "rule":
        return 0, None
    numbers = [told_field(fields, k, read_number) for k in (1, 3, 4, 5)]
    con = told_field(fields, 2, lambda name: lexicon[1].index(name) if name in lexicon[1] else None)
    words = [read_word(field) for field in fields[6:]]
    told = [numbers[0], con] + numbers[1:] + words
    if None in told:
        return told.index(None) + 1, None
    return -1, (numbers[0], con, numbers[1], tuple(words), numbers[2], numbers[3])


def told_web(kids, fields):
    """The row of webs behind a constructor's name."""
    size = told_field(fields, 2, read_number)
    if size is None:
        return 2, None
    # One for the doors, one for the edges, then one for each kid.
    sections = []
    for k, field in enumerate(fields[3:]):
        if field == "/" and len(sections) < kids + 2:
            sections.append([])
        elif not sections or not add_to_section(sections, field):
            return k + 3, None
    if len(sections) < kids + 2:
        return len(fields), None
    edges = tuple([(first, last, tuple(words)) for first, last, words in sections[1]])
    return -1, (size, tuple(sections[0]), edges, tuple([tuple(nodes) for nodes in sections[2:]]))


def add_to_section(sections, field):
    """Add what the field tells to the last section; whether it can stand there."""
    edges = len(sections) == 2
    value = read_pair(field, "-") if edges else read_number(field)
    word = read_word(field)
    if value is not None:
        sections[-1].append(value + ([],) if edges else value)
    elif edges and word is not None and sections[-1]:
        sections[-1][-1][2].append(word)
    else:
        return False
    return True
