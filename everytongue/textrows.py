"""All texts of forms that have finitely many."""

from everytongue.erasing import is_trim_form
from everytongue.errors import TooMuch
from everytongue.kinds import is_number
from everytongue.leasttrees import least_roots, least_sizes
from everytongue.refusing import require
from everytongue.rings import ordered_parts, ring_parts
from everytongue.saying import filled_row, row_words
from everytongue.trimming import kid_uses


def is_endless(form):
    """Whether the form has endlessly many sentences."""
    require(is_trim_form(form), "form")
    return len(growing_parts(form)) > 0


def text_rows(form):
    """For each sort the ascending tuple of the rows of texts that its trees say."""
    require(is_trim_form(form), "form")
    return tuple([tuple(sorted(rows)) for rows in finite_rows(form)])


def sentences_of(form, most):
    """The ascending tuple of the form's sentences."""
    require(is_trim_form(form), "form")
    require(is_number(most), "most")
    return form_sentences(form, most)


def form_sentences(form, most):
    """The sentences of what is known to be a form, its own book trimmed."""
    rows = finite_rows(form)
    found = tuple(sorted(set([row[0] for start in form[0][1] for row in rows[start]])))
    if len(found) > most:
        raise TooMuch("sentences")
    return found


def sort_edges(made):
    """For each sort the list of the sorts of its constructors' kids."""
    edges = [[] for _ in range(made[0])]
    for result, kids in made[2]:
        edges[result].extend(kids)
    return edges


def wordy_sorts(form):
    """For each sort of a trimmed book whether some tree of it has own words."""
    made, _, said = form
    uses = kid_uses(made)
    wordy = [False] * made[0]
    todo = [made[2][con][0] for con, row in enumerate(said[2]) if row_words(row) > 0]
    while todo:
        sort = todo.pop()
        if not wordy[sort]:
            wordy[sort] = True
            todo.extend([made[2][con][0] for con in uses[sort]])
    return wordy


def growing_parts(form):
    """The parts, as ring_parts numbers them, of the sorts around which contexts with words can be put for ever."""
    made, _, said = form
    parts = ring_parts(sort_edges(made))
    wordy = wordy_sorts(form)
    found = {}
    for (result, kids), row in zip(made[2], said[2]):
        for k, kid in enumerate(kids):
            others = [wordy[other] for other in kids[:k] + kids[k + 1:]]
            if parts[kid] == parts[result] and (row_words(row) > 0 or any(others)):
                found[parts[result]] = True
    return found


def finite_rows(form):
    """For each sort the rows that its trees say, each with a constructor that makes it of rows of its kids.

    Rows of kids are listed ahead of those that are made of them.
    """
    if growing_parts(form):
        raise TooMuch("sentences")
    made, _, said = form
    wordy = wordy_sorts(form)
    roots = least_roots(made, least_sizes(made))
    found = [{} for _ in range(made[0])]
    for sort in range(made[0]):
        if not wordy[sort]:
            # All trees say the same, so the least one tells how it is made.
            con = roots[sort]
            kids = tuple([((),) * said[1][kid] for kid in made[2][con][1]])
            found[sort][((),) * said[1][sort]] = (con, kids)
    cons = [[] for _ in range(made[0])]
    for con, (result, _) in enumerate(made[2]):
        cons[result].append(con)
    for part in ordered_parts(sort_edges(made)):
        if wordy[part[0]]:
            add_part_rows(form, found, [con for sort in part for con in cons[sort]], part)
    return found


def add_part_rows(form, found, cons, part):
    """Add the rows of the sorts of a part; they have these constructors, and one leads to each other.

    A constructor with a kid of the part has no words, and its other kids say none.
    """
    made, _, said = form
    inside = {sort: [] for sort in part}
    todo = []
    for con in cons:
        result, kids = made[2][con]
        own = [k for k, kid in enumerate(kids) if kid in inside]
        if own:
            inside[kids[own[0]]].append((con, own[0]))
            continue
        lists = [list(found[kid]) for kid in kids]
        todo.extend([(result, row, con, told) for row, told in folded_rows(said[2][con], lists).items()])
    while todo:
        sort, row, con, told = todo.pop()
        if row in found[sort]:
            continue
        found[sort][row] = (con, told)
        for further, k in inside[sort]:
            result, kids = made[2][further]
            rows = tuple([row if j == k else ((),) * said[1][kid] for j, kid in enumerate(kids)])
            todo.append((result, filled_row(said[2][further], rows), further, rows))


def folded_rows(row, lists):
    """The rows that a constructor with this row makes of listed rows of its kids, each with rows that make it."""
    found = {row: ()}
    order = slot_order(row)
    # Texts that stand side by side are put together early: then few rows are told apart on the way.
    for k in order:
        further = {}
        for part, told in found.items():
            for texts in lists[k]:
                further.setdefault(tuple([kid_put(piece, k, texts) for piece in part]), told + (texts,))
        found = further
    steps = [step for _, step in sorted([(k, step) for step, k in enumerate(order)])]
    return {part: tuple([told[step] for step in steps]) for part, told in found.items()}


def slot_order(row):
    """The kids, in the sequence of their first slots in the row."""
    kids = {}
    for piece in row:
        for item in piece:
            if not isinstance(item, str):
                kids[item[0]] = True
    return list(kids)


def kid_put(piece, kid, texts):
    """The piece with the kid's texts in the place of its slots."""
    items = []
    for item in piece:
        if isinstance(item, str) or item[0] != kid:
            items.append(item)
        else:
            items.extend(texts[item[1]])
    return tuple(items)
