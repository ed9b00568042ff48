"""What tongues of any way say."""

from everytongue.checkers import is_book, is_start_tree
from everytongue.gluing import glued_graph, row_words
from everytongue.refusing import require
from everytongue.saying import tree_texts
from everytongue.terms import whole_term
from everytongue.tonguechecker import is_tongue
from everytongue.walking import walked_text
from everytongue.worths import worth_text


def says(book, tongue, start_tree):
    """The text that the tongue says of the start tree, None if it is unsaid."""
    require(is_book(book), "book")
    require(is_tongue(book, tongue), "tongue")
    require(is_start_tree(book, start_tree), "start_tree")
    return text_said(book, tongue, start_tree)


def words_of(book, tongue):
    """The ascending tuple of the words that stand in the tongue."""
    require(is_book(book), "book")
    require(is_tongue(book, tongue), "tongue")
    if tongue[0] == "pieces":
        words = words_in(tongue[2])
    elif tongue[0] == "functions":
        words = [token[1] for term in tongue[2] for token in term if token[0] == "word"]
    elif tongue[0] == "walker":
        words = [word for rule in tongue[2] for word in rule[3]]
    else:
        words = [word for row in tongue[2] for edge in row[2] for word in edge[2]]
    return tuple(sorted(set(words)))


def text_said(book, tongue, start_tree):
    """What says returns, for what is known to be a start tree."""
    if tongue[0] == "pieces":
        return tree_texts(book, tongue, start_tree)[0]
    if tongue[0] == "functions":
        return worth_text(whole_term(book, tongue, start_tree))
    if tongue[0] == "walker":
        return walked_text(book, tongue, start_tree)
    return row_words(glued_graph(book, tongue, start_tree))


def words_in(rows):
    """The words that stand in rows of pieces."""
    return [item for row in rows for piece in row for item in piece if isinstance(item, str)]
