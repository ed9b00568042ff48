"""Books told in lines."""

from everytongue.checkers import is_book
from everytongue.lexicons import is_lexicon_of
from everytongue.refusing import require


def book_text(book, lexicon):
    """The lines that tell the book with its names."""
    require(is_book(book), "book")
    require(is_lexicon_of(book, lexicon), "lexicon")
    sorts, cons = lexicon
    lines = [("sorts",) + sorts, ("starts",) + tuple([sorts[start] for start in book[1]])]
    for name, (result, kids) in zip(cons, book[2]):
        lines.append(("con", name, sorts[result]) + tuple([sorts[kid] for kid in kids]))
    return "\n".join([" ".join(line) for line in lines])
