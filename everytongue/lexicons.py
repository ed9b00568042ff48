"""Names of sorts and constructors, and trees told by them."""

from everytongue.checkers import is_any_tree, is_book
from everytongue.errors import InvalidText
from everytongue.kinds import is_each
from everytongue.refusing import bound_nodes, require
from everytongue.trees import kid_places, parent_places

LETTERS = "abcdefghijklmnopqrstuvwxyz"
SIGNS = "abcdefghijklmnopqrstuvwxyz0123456789"


def is_name(thing):
    """Whether thing is a name."""
    if not (isinstance(thing, str) and 1 <= len(thing) <= 16):
        return False
    return thing[0] in LETTERS and all([sign in SIGNS for sign in thing])


def is_lexicon(book, thing):
    """Whether thing is a pair of names for all sorts and names for all constructors."""
    require(is_book(book), "book")
    return is_lexicon_of(book, thing)


def named_tree(book, lexicon, tree):
    """The tree, told by the names of its constructors."""
    require(is_book(book), "book")
    require(is_lexicon_of(book, lexicon), "lexicon")
    require(is_any_tree(book, tree), "tree")
    return tree_by_names(book, lexicon, tree)


def read_named(book, lexicon, text):
    """The tree that text tells by the names of its constructors."""
    require(is_book(book), "book")
    require(is_lexicon_of(book, lexicon), "lexicon")
    require(isinstance(text, str), "text")
    return told_tree(book, lexicon, text)


def is_lexicon_of(book, thing):
    """Whether thing is a lexicon of what is known to be a book."""
    if not (isinstance(thing, tuple) and len(thing) == 2):
        return False
    return are_names(book[0], thing[0]) and are_names(len(book[2]), thing[1])


def are_names(many, thing):
    """Whether thing is a tuple of so many unlike names."""
    return is_each(thing, is_name) and len(thing) == many and len(set(thing)) == many


def tree_by_names(book, lexicon, tree):
    """What named_tree returns."""
    places = kid_places(book, tree)
    parents = parent_places(places)
    told = []
    for at, con in enumerate(tree):
        if parents[at][1] > 0:
            told.append(", ")
        told.append(lexicon[1][con])
        if places[at]:
            told.append("(")
            continue
        # A node without kids is the last one of all those around it whose last kids end here.
        node = at
        while node > 0 and parents[node][1] + 1 == len(places[parents[node][0]]):
            told.append(")")
            node = parents[node][0]
    return "".join(told)


def told_tree(book, lexicon, text):
    """What read_named returns."""
    numbers = {name: con for con, name in enumerate(lexicon[1])}
    nodes = []
    # What is still due: sorts of trees, -1 for a tree of any sort, and signs.
    due = [-1]
    at = 0
    while due:
        wanted = due.pop()
        if isinstance(wanted, str):
            if text[at:at + 1] != wanted:
                raise InvalidText(0, at)
            at += 1
            continue
        end = name_end(text, at)
        con = numbers.get(text[at:end], -1)
        if con == -1 or wanted not in (-1, book[2][con][0]):
            raise InvalidText(0, at)
        nodes.append(con)
        at = end
        due.extend(signs_due(book[2][con][1])[::-1])
    if at < len(text):
        raise InvalidText(0, at)
    bound_nodes(len(nodes))
    return tuple(nodes)


def name_end(text, at):
    """The place behind the signs of names that begin here."""
    while at < len(text) and text[at] in SIGNS:
        at += 1
    return at


def signs_due(kids):
    """The signs and the sorts of trees that stand behind the name of a constructor with these kids."""
    if not kids:
        return []
    told = ["("]
    for kid in kids:
        told.extend([kid, ",", " "])
    return told[:-2] + [")"]
