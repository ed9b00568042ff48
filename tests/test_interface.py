"""Everything that the interface lists exists, in its file, with its parameters."""

import ast
import doctest
import importlib
import inspect
import pathlib
import unittest

INTERFACE = {
    "kinds": ("is_number(thing)", "is_word(thing)", "is_text(thing)", "is_quotient(thing)"),
    "checkers": ("lets_book(thing)", "lets_tree(book, thing)"),
    "trees": ("is_tree(book, sort, thing)", "sort_of(book, tree)", "kids_of(book, tree)", "tree_of(book, con, *kids)",
              "height_of(book, tree)", "node_tree(book, tree, at)", "parents_of(book, tree)",
              "is_context(book, sort, thing)", "sort_around(book, sort, context)", "put_in(context, inner)"),
    "trimming": ("live_sorts(book)", "used_sorts(book)", "used_cons(book)", "trimmed(book)", "looping_sorts(book)"),
    "treecounts": ("size_counts(book, sort, most)", "count_trees(book)"),
    "numbering": ("order_key(book, tree)", "tree_number(book, tree)", "nth_tree(book, sort, number)",
                  "drawn_tree(book, sort, size, number)"),
    "leasttrees": ("least_size(book, sort)", "least_tree(book, sort)", "least_context(book, sort)"),
    "renumbering": ("renumbered(book, sort_order, con_order)", "renumbered_tree(book, tree, con_order)"),
    "treelines": ("tree_line(tree)", "read_tree(book, text)"),
    "piecechecker": ("lets_pieces(book, thing)",),
    "saying": ("texts_said(book, pieces, tree)", "own_words(book, pieces, con)", "words_said(book, pieces, tree)"),
    "silents": ("silent_pieces(book, pieces)", "struck(book, pieces)"),
    "twists": ("is_twist(thing)", "twisted_text(words, twist)", "twisted(book, pieces, twist)"),
    "together": ("either(book, one, second, other)", "behind(book, one, second, other)", "again(book, one)"),
    "formchecker": ("is_form(thing)", "lets_form(book, thing)"),
    "erasing": ("erased(form, tree)", "sorts_matched(book, form)", "trimmed_form(form)", "made_pieces(book, pieces)",
                "form_through(form, further)"),
    "reordering": ("reordered(book, pieces, sort, order)", "identity_form(book, pieces)"),
    "ftypes": ("is_type(thing)", "type_order(ftype)", "type_parts(ftype)", "type_from(parts)", "doors_of(ftype)"),
    "terms": ("is_term(thing)", "applied(term, *arguments)", "tree_term(book, functions, tree)"),
    "termchecker": ("lets_term(thing)", "lets_functions(book, thing)"),
    "steps": ("step_places(term)", "step_at(term, at)", "done_term(term)"),
    "worths": ("term_text(term)", "function_text(book, functions, start_tree)"),
    "wires": ("term_links(term)", "term_shape(links)"),
    "plugging": ("plugged(book, functions, con, kids)", "term_shapes(book, functions)"),
    "madefunctions": ("made_functions(book, functions)",),
    "givenfunctions": ("functions_of(book, pieces)",),
    "walkerchecker": ("lets_walker(book, thing)",),
}


class Interface(unittest.TestCase):

    def test_functions(self):
        for name, told in INTERFACE.items():
            module = importlib.import_module("everytongue." + name)
            tree = ast.parse(pathlib.Path(module.__file__).read_text())
            defined = {node.name for node in tree.body if isinstance(node, ast.FunctionDef)}
            for line in told:
                function = line.split("(")[0]
                self.assertIn(function, defined, name)
                self.assertEqual(function + str(inspect.signature(getattr(module, function))), line)

    def test_readme(self):
        path = pathlib.Path(__file__).resolve().parent.parent / "README.md"
        failed, tried = doctest.testfile(str(path), module_relative=False)
        self.assertEqual(failed, 0)
        self.assertTrue(tried > 0)


if __name__ == "__main__":
    unittest.main()
