"""Tongues told in lines."""

from everytongue.checkers import is_book
from everytongue.fields import figures, quoted, quoted_words
from everytongue.lexicons import is_lexicon_of
from everytongue.refusing import require
from everytongue.tonguechecker import is_tongue


def tongue_text(book, lexicon, tongue):
    """The lines that tell the tongue with the names of sorts and constructors."""
    require(is_book(book), "book")
    require(is_lexicon_of(book, lexicon), "lexicon")
    require(is_tongue(book, tongue), "tongue")
    if tongue[0] == "pieces":
        lines = pieces_lines(lexicon, tongue)
    elif tongue[0] == "functions":
        lines = functions_lines(lexicon, tongue)
    elif tongue[0] == "walker":
        lines = walker_lines(lexicon, tongue)
    else:
        lines = webs_lines(lexicon, tongue)
    return "\n".join([" ".join(line) for line in lines])


def pieces_lines(lexicon, pieces):
    """The lists of fields that tell a tongue in pieces."""
    lines = [["pieces"]]
    for name, width in zip(lexicon[0], pieces[1]):
        lines.append(["width", name, str(width)])
    for name, row in zip(lexicon[1], pieces[2]):
        fields = []
        for piece in row:
            fields.extend(["|"] + piece_fields(piece))
        lines.append(["say", name] + fields[1:])
    return lines


def piece_fields(piece):
    """The fields that tell a piece."""
    if not piece:
        return ["-"]
    fields = []
    for item in piece:
        fields.append(quoted(item) if isinstance(item, str) else f"{item[0]}.{item[1]}")
    return fields


def functions_lines(lexicon, functions):
    """The lists of fields that tell a tongue of functions."""
    lines = [["functions"]]
    for name, ftype in zip(lexicon[0], functions[1]):
        lines.append(["sort", name, figures(ftype)])
    for name, term in zip(lexicon[1], functions[2]):
        lines.append(["mean", name] + [token_field(token) for token in term])
    return lines


def token_field(token):
    """The field that tells a token."""
    if token[0] == "word":
        return quoted(token[1])
    if token[0] == "var":
        return f"var:{token[1]}"
    if token[0] == "lam":
        return "lam:" + figures(token[1])
    return "app"


def walker_lines(lexicon, walker):
    """The lists of fields that tell a walker."""
    lines = [["walker", str(walker[1])]]
    for state, con, came, words, to, further in walker[2]:
        fields = ["rule", str(state), lexicon[1][con], str(came), str(to), str(further)]
        lines.append(fields + quoted_words(words))
    return lines


def webs_lines(lexicon, webs):
    """The lists of fields that tell webs."""
    lines = [["webs"]]
    for name, rank in zip(lexicon[0], webs[1]):
        lines.append(["rank", name, str(rank)])
    for name, (size, doors, edges, args) in zip(lexicon[1], webs[2]):
        fields = ["web", name, str(size), "/"] + [str(door) for door in doors] + ["/"]
        for first, last, words in edges:
            fields.extend([f"{first}-{last}"] + quoted_words(words))
        for nodes in args:
            fields.extend(["/"] + [str(node) for node in nodes])
        lines.append(fields)
    return lines
