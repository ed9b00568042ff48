"""Codes of texts: numbers whose figures are the words."""

from everytongue.kinds import is_each, is_integer, is_number, is_text, is_vocabulary
from everytongue.refusing import require


def code_of(words, digits):
    """The code of the text: its power of the base, its number, and 1."""
    require(is_text(words), "words")
    require(is_vocabulary(digits), "digits")
    require(all([word in digits for word in words]), "words")
    return text_code(words, digit_numbers(digits))


def joined_codes(one, other):
    """The code of two texts put together, of the codes of both."""
    require(is_triple(one), "one")
    require(is_triple(other), "other")
    return (one[0] * other[0], one[1] * other[0] + one[2] * other[1], one[2] * other[2])


def text_by(value, digits):
    """The text whose code has this number."""
    require(is_number(value), "value")
    require(is_vocabulary(digits), "digits")
    words = []
    base = len(digits) + 1
    while value > 0 and base > 1:
        value, figure = divmod(value, base)
        require(figure > 0, "value")
        words.append(digits[figure - 1])
    require(value == 0, "value")
    return tuple(words[::-1])


def is_triple(thing):
    """Whether thing is a triple of integers."""
    return is_each(thing, is_integer) and len(thing) == 3


def digit_numbers(digits):
    """The digit of each word of an ascending tuple."""
    return {word: place + 1 for place, word in enumerate(digits)}


def text_code(words, numbers):
    """The code of the text; numbers has the digit of each word."""
    power, value = 1, 0
    base = len(numbers) + 1
    for word in words:
        power *= base
        value = value * base + numbers[word]
    return (power, value, 1)
