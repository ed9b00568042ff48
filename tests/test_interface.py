"""Everything that the interface lists exists, in its file, with its parameters."""

import ast
import doctest
import importlib
import inspect
import pathlib
import unittest

INTERFACE = {
    "kinds": ("is_number(thing)", "is_word(thing)", "is_text(thing)", "is_quotient(thing)"),
    "checkers": ("lets_book(thing)", "lets_tree(book, thing)"),
    "trees": ("is_tree(book, sort, thing)", "sort_of(book, tree)", "kids_of(book, tree)", "tree_of(book, con, *kids)",
              "height_of(book, tree)", "node_tree(book, tree, at)", "parents_of(book, tree)",
              "is_context(book, sort, thing)", "sort_around(book, sort, context)", "put_in(context, inner)"),
    "trimming": ("live_sorts(book)", "used_sorts(book)", "used_cons(book)", "trimmed(book)", "looping_sorts(book)"),
    "treecounts": ("size_counts(book, sort, most)", "count_trees(book)"),
    "numbering": ("order_key(book, tree)", "tree_number(book, tree)", "nth_tree(book, sort, number)",
                  "drawn_tree(book, sort, size, number)"),
    "leasttrees": ("least_size(book, sort)", "least_tree(book, sort)", "least_context(book, sort)"),
    "renumbering": ("renumbered(book, sort_order, con_order)", "renumbered_tree(book, tree, con_order)"),
    "treelines": ("tree_line(tree)", "read_tree(book, text)"),
    "piecechecker": ("lets_pieces(book, thing)",),
    "saying": ("texts_said(book, pieces, tree)", "own_words(book, pieces, con)", "words_said(book, pieces, tree)"),
    "silents": ("silent_pieces(book, pieces)", "struck(book, pieces)"),
    "twists": ("is_twist(thing)", "twisted_text(words, twist)", "twisted(book, pieces, twist)"),
    "together": ("either(book, one, second, other)", "behind(book, one, second, other)", "again(book, one)"),
    "formchecker": ("is_form(thing)", "lets_form(book, thing)"),
    "erasing": ("erased(form, tree)", "sorts_matched(book, form)", "trimmed_form(form)", "made_pieces(book, pieces)",
                "form_through(form, further)"),
    "reordering": ("reordered(book, pieces, sort, order)", "identity_form(book, pieces)"),
    "ftypes": ("is_type(thing)", "type_order(ftype)", "type_parts(ftype)", "type_from(parts)", "doors_of(ftype)"),
    "terms": ("is_term(thing)", "applied(term, *arguments)", "tree_term(book, functions, tree)"),
    "termchecker": ("lets_term(thing)", "lets_functions(book, thing)"),
    "steps": ("step_places(term)", "step_at(term, at)", "done_term(term)"),
    "worths": ("term_text(term)", "function_text(book, functions, start_tree)"),
    "wires": ("term_links(term)", "term_shape(links)"),
    "plugging": ("plugged(book, functions, con, kids)", "term_shapes(book, functions)"),
    "madefunctions": ("made_functions(book, functions)",),
    "givenfunctions": ("functions_of(book, pieces)",),
    "walkerchecker": ("lets_walker(book, thing)",),
    "walking": ("walk_steps(book, walker, tree, state)", "walk_text(book, walker, start_tree)"),
    "behaviours": ("behaviour_of(book, walker, tree)", "behaviour_made(book, walker, con, behaviours)",
                   "all_behaviours(book, walker)"),
    "visits": ("visits_of(book, walker, start_tree)", "kids_entered(book, walker, con, behaviours, entered)"),
    "reaching": ("reached(book, walker)", "met_rules(book, walker)", "rule_tree(book, walker, at)",
                 "met_walker(book, walker)"),
    "madewalkers": ("made_walker(book, walker)",),
    "givenwalkers": ("walker_of(book, pieces)", "walker_of_functions(book, functions)"),
    "webchecker": ("lets_webs(book, thing)",),
    "graphs": ("is_graph(thing)", "is_dead(graph)", "graph_links(graph)", "graph_shape(graph)"),
    "gluing": ("glued(book, webs, tree)", "row_text(graph)"),
    "chains": ("is_shape(rank, thing)", "chains_of(rank, shape)", "lone_doors(rank, shape)"),
    "surroundings": ("around(graph)",),
    "webshapes": ("shape_made(book, webs, con, shapes)", "web_states(book, webs)"),
    "madewebs": ("made_webs(book, webs)",),
    "givenwebs": ("webs_of(book, pieces)", "webs_of_functions(book, functions)"),
    "mirroredwebs": ("mirrored_webs(book, webs)",),
    "tonguechecker": ("lets_tongue(book, thing)",),
    "speaking": ("says(book, tongue, start_tree)", "words_of(book, tongue)"),
    "making": ("form_of(book, tongue)", "widest(form)", "led(book, tongue, way)", "one_width(book, tongue)"),
    "lifting": ("lifted(book, form, tongue)",),
    "leading": ("block_book()", "block_tongue(width)"),
    "states": ("state_of(book, tongue, tree)", "state_made(book, tongue, con, states)", "states_of(book, tongue)",
               "state_says(book, tongue, state)"),
    "within": ("state_pairs(book, one, other)", "said_within(book, one, other)"),
    "withinchecker": ("lets_within(book, one, other, thing)",),
    "machinechecker": ("lets_machine(thing)",),
    "machines": ("led_to(machine, state, words)", "takes(machine, words)", "text_machine(words)",
                 "beginning_machine(words, vocabulary)", "both(machine, other)", "without_pairs(vocabulary, pairs)"),
    "patterns": ("is_pattern(thing)", "pattern_machine(pattern, vocabulary)"),
    "items": ("items_made(form, machine, con, items)", "items_of(form, machine)"),
    "meets": ("form_words(form)", "meet(form, machine)"),
    "readings": ("readings(book, tongue, words)", "count_readings(book, tongue, words)",
                 "first_readings(book, tongue, words, most)"),
    "noreading": ("no_reading(book, tongue, words)", "lets_no_reading(book, tongue, words, thing)"),
    "beginnings": ("sure_beginning(book, tongue, words)", "next_words(book, tongue, words)",
                   "completion(book, tongue, words)"),
    "translating": ("translations(book, one, words, other)", "translated(book, one, words, other, most)"),
    "notranslation": ("no_translation(book, one, words, other)",
                      "lets_no_translation(book, one, words, other, thing)"),
    "returning": ("back_and_forth(book, one, words, other, most)",),
    "textrows": ("is_endless(form)", "text_rows(form)", "sentences_of(form, most)"),
    "shortest": ("shortest(form)",),
    "growth": ("growth(form)",),
    "growthchecker": ("lets_growth(form, thing)",),
    "wordcounts": ("word_counts(form, most)",),
    "quotients": ("quotient_of(top, bottom)", "added(one, other)", "multiplied(one, other)"),
    "codes": ("code_of(words, digits)", "joined_codes(one, other)", "text_by(value, digits)"),
    "common": ("common_form(book, one, other)", "pair_digits(said, other_said)"),
    "listing": ("listed(book, one, other, twist)",),
    "alike": ("parts_at(book, one, other, twist, start_tree)", "alike(book, one, other, twist)"),
    "alikechecker": ("lets_alike(book, one, other, twist, thing)",),
    "grounds": ("alike_on(book, ground, one, other, twist)",),
    "lexicons": ("is_name(thing)", "is_lexicon(book, thing)", "named_tree(book, lexicon, tree)",
                 "read_named(book, lexicon, text)"),
    "booktexts": ("book_text(book, lexicon)",),
    "bookreadings": ("read_book(text)",),
    "tonguetexts": ("tongue_text(book, lexicon, tongue)",),
    "tonguereadings": ("read_tongue(book, lexicon, text)",),
    "marked": ("marked_items(book, tongue, words, at, out)",),
    "desk": ("desk_line(library, line)",),
    "vectors": ("vector_size(width)", "vector_of(row, digits)", "vector_made(book, pieces, con, vectors, digits)"),
}

CLASSES = {
    "spaces": ("Space(size)", "take(self, vector)", "parts(self, vector)", "told(self)", "__len__(self)",
               "__eq__(self, other)"),
    "kept": ("Kept(book, tongue, words)", "edit(self, at, out, put)", "undo(self)", "text(self)", "how_many(self)",
             "first(self, most)", "next_words(self)", "sure(self)", "paper(self)", "__eq__(self, other)"),
    "library": ("Library()", "put_book(self, name, text)", "put_tongue(self, name, book_name, text)", "drop(self, name)",
                "rename(self, name, new)", "undo(self, steps)", "text_of(self, name)", "names(self)",
                "book_of(self, name)", "tongue_of(self, name)", "log(self)", "__eq__(self, other)"),
}


class Interface(unittest.TestCase):

    def test_functions(self):
        for name, told in INTERFACE.items():
            module = importlib.import_module("everytongue." + name)
            tree = ast.parse(pathlib.Path(module.__file__).read_text())
            defined = {node.name for node in tree.body if isinstance(node, ast.FunctionDef)}
            for line in told:
                function = line.split("(")[0]
                self.assertIn(function, defined, name)
                self.assertEqual(function + str(inspect.signature(getattr(module, function))), line)

    def test_classes(self):
        for name, told in CLASSES.items():
            module = importlib.import_module("everytongue." + name)
            tree = ast.parse(pathlib.Path(module.__file__).read_text())
            word = told[0].split("(")[0]
            defined = {inner.name for node in tree.body if isinstance(node, ast.ClassDef) and node.name == word
                       for inner in node.body if isinstance(inner, ast.FunctionDef)}
            own = getattr(module, word)
            self.assertEqual(word + str(inspect.signature(own)), told[0])
            for line in told[1:]:
                method = line.split("(")[0]
                self.assertIn(method, defined)
                self.assertEqual(method + str(inspect.signature(vars(own)[method])), line)

    def test_readme(self):
        path = pathlib.Path(__file__).resolve().parent.parent / "README.md"
        failed, tried = doctest.testfile(str(path), module_relative=False)
        self.assertEqual(failed, 0)
        self.assertTrue(tried > 0)


if __name__ == "__main__":
    unittest.main()
