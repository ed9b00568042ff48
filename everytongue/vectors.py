"""Vectors of rows of texts."""

from everytongue.checkers import is_book, is_con
from everytongue.closing import choices
from everytongue.codes import digit_numbers, text_code
from everytongue.kinds import is_each, is_integer, is_text, is_vocabulary
from everytongue.piecechecker import is_pieces
from everytongue.refusing import require
from everytongue.speaking import words_in


def vector_size(width):
    """How many entries the vector of a row of so many texts has."""
    require(is_integer(width) and 1 <= width <= 12, "width")
    return entry_count(width)


def vector_of(row, digits):
    """The vector of a row of texts."""
    require(is_each(row, is_text) and len(row) > 0, "row")
    require(is_vocabulary(digits), "digits")
    require(all([word in digits for words in row for word in words]), "row")
    return row_vector(row, digit_numbers(digits))


def vector_made(book, pieces, con, vectors, digits):
    """The vector that con makes of those of its kids."""
    require(is_book(book), "book")
    require(is_pieces(book, pieces), "pieces")
    require(is_con(book, con), "con")
    widths = [pieces[1][kid] for kid in book[2][con][1]]
    require(are_vectors(widths, vectors), "vectors")
    own = words_in([pieces[2][con]])
    require(is_vocabulary(digits) and all([word in digits for word in own]), "digits")
    return made_vector(vector_plan(widths, pieces[2][con], digit_numbers(digits)), vectors)


def entry_count(width):
    """How many entries the vector of a row of so many texts has; the row is not ()."""
    return (width + 2) << (width - 1)


def are_vectors(widths, thing):
    """Whether thing has, for each of the widths, a tuple of integers as long as a vector."""
    if not (isinstance(thing, tuple) and len(thing) == len(widths)):
        return False
    for width, vector in zip(widths, thing):
        if not (is_each(vector, is_integer) and len(vector) == entry_count(width)):
            return False
    return True


def entry_choices(width):
    """The choices of an entry of each code, ascending: 0 for the power, 1, at most once, for the number, 2 for 1."""
    rows = [()]
    for _ in range(width):
        rows = [row + (pick,) for row in rows for pick in (0, 1, 2) if pick != 1 or 1 not in row]
    return rows


def row_vector(row, numbers):
    """The vector of a row of texts; numbers has the digit of each word."""
    codes = [text_code(words, numbers) for words in row]
    vector = []
    for picks in entry_choices(len(row)):
        entry = 1
        for code, pick in zip(codes, picks):
            entry *= code[pick]
        vector.append(entry)
    return tuple(vector)


def vector_plan(widths, row, numbers):
    """How a constructor with this row, and kids of these widths, makes vectors.

    For each entry the list of the products that it is the sum of: a factor, and for
    each kid the place of an entry of its vector.
    """
    places = [{picks: place for place, picks in enumerate(entry_choices(width))} for width in widths]
    told = [[piece_ways(piece, pick, numbers) for pick in (0, 1, 2)] for piece in row]
    plan = []
    for picks in entry_choices(len(row)):
        lists = [ways[pick] for ways, pick in zip(told, picks)]
        plan.append([told_product(widths, places, ways) for ways in choices(lists)])
    return plan


def piece_ways(piece, pick, numbers):
    """The ways to give each element of a piece 0, 1 or 2, so that all of them come to pick.

    Each is a pair of the factor of the words and a list of the slots with what they are given.
    """
    many = len(piece)
    if pick == 1:
        given = [(2,) * at + (1,) + (0,) * (many - 1 - at) for at in range(many)]
    else:
        given = [(pick,) * many]
    ways = []
    for picks in given:
        factor = 1
        slots = []
        for item, own in zip(piece, picks):
            if not isinstance(item, str):
                slots.append((item[0], item[1], own))
            elif own != 2:
                factor *= len(numbers) + 1 if own == 0 else numbers[item]
        ways.append((factor, slots))
    return ways


def told_product(widths, places, ways):
    """The factor of the words and the place of each kid's entry, for one way of each piece."""
    factor = 1
    picks = [[2] * width for width in widths]
    for own, slots in ways:
        factor *= own
        for kid, piece, pick in slots:
            picks[kid][piece] = pick
    return factor, [table[tuple(row)] for table, row in zip(places, picks)]


def made_vector(plan, vectors):
    """The vector that the plan makes of those of the kids."""
    made = []
    for products in plan:
        entry = 0
        for factor, places in products:
            for vector, place in zip(vectors, places):
                factor *= vector[place]
            entry += factor
        made.append(entry)
    return tuple(made)
