"""The interface [19]: which file defines what, with which arguments, and what it needs."""

import ast
import inspect
import unittest

from partpicks import (back, beside, board, desk, errors, hits, joined, parted, rankings, send, steps, tables, texts,
                       told, trees, words)

ARGUMENTS = {
    hits: {
        "is_hits": "thing", "is_parts": "hits thing", "names_of": "hits", "score_of": "hits name",
        "labels_of": "hits name", "kinds": "hits", "labels_in": "hits kind", "with_label": "hits kind label",
        "best_first": "hits", "better": "hits name", "with_hit": "hits name score labels",
        "without_hit": "hits name", "part_of": "hits some", "raised": "hits number", "renamed_hits": "hits pairs",
    },
    steps: {
        "is_step": "thing", "is_word": "thing", "kinds_in": "word", "picked": "hits word", "page": "hits word",
        "left_along": "hits word", "best_left_out": "hits word", "goes_at": "hits word name",
        "barred_by": "hits word name", "score_needed": "hits word name",
    },
    words: {
        "kinds_needed": "word", "floor_of": "word", "near_of": "word", "caps": "word", "takes_out": "word",
        "without_step": "word place", "reduced": "word", "is_reduced": "word", "raised_word": "word number",
        "turned_kinds": "word turn",
    },
    parted: {
        "picked_parted": "hits parts word", "is_right": "hits parts word", "may_be_parted": "word",
        "barred_at": "word", "parted_paper": "word", "is_parted_paper": "word thing",
    },
    send: {
        "is_enough": "word number", "enough": "word", "send_word": "word", "most_sent": "word",
        "sent": "hits parts word", "how_many_sent": "hits parts word", "needed": "hits parts word",
        "picked_of": "hits sets word", "wrong_by": "hits parts word number", "send_apart": "word number",
        "is_send_apart": "word number thing",
    },
    trees: {
        "is_tree": "parts thing", "shown": "hits parts word tree", "tree_shows": "hits parts word",
        "wrong_tree": "hits parts word", "is_wrong_tree": "hits parts word thing", "kept_along": "hits parts word",
        "wave_ends": "hits parts word", "wave_paper": "word", "is_wave_paper": "word thing",
    },
    beside: {
        "only_by": "hits one other", "first_unlike": "hits one other", "is_straight": "word",
        "are_alike": "one other", "parting_hits": "one other", "is_within": "one other", "within_paper": "one other",
        "is_parting_hits": "one other thing", "is_within_paper": "one other thing",
    },
    joined: {
        "joined": "hits words way", "votes": "hits words", "joined_parted": "hits parts words way",
        "joined_lost": "hits parts words way", "joined_come": "hits parts words way",
        "may_be_joined": "one other way", "both_word": "one other", "joined_paper": "one other",
        "is_joined_paper": "one other way thing",
    },
    tables: {
        "is_picker": "thing", "picked_from": "picker some", "picker_of": "hits word", "heritage_breaks": "picker",
        "has_heritage": "picker", "outcast_breaks": "picker", "has_outcast": "picker", "is_same_by_covers": "picker",
        "is_same_by_cuts": "picker", "cover_against": "picker", "cut_against": "picker",
        "is_cover_against": "picker thing", "is_cut_against": "picker thing", "wide_sets": "picker",
    },
    rankings: {
        "best_by": "ranking some", "picker_by": "names rankings", "is_ranking_within": "picker ranking",
        "how_many_within": "picker", "rankings_for": "picker", "fewest_rankings": "picker",
        "is_rankings_for": "picker thing", "greatest_menus": "picker name",
    },
    told: {
        "lost": "hits parts word", "come_in": "hits parts word", "how_many_right": "hits word",
        "how_many_wrong": "hits word", "wrong_cut": "hits word", "most_lost": "hits word", "worst_cut": "hits word",
        "is_worst_cut": "hits word thing", "surely_shown": "hits word", "maybe_shown": "hits word",
        "cut_losing": "hits word name", "is_cut_losing": "hits word name thing",
    },
    back: {
        "plain_words": "many size most", "fitting_words": "cases many size most",
        "surely_picked": "cases many size most hits", "maybe_picked": "cases many size most hits",
        "least_quarrel": "cases many size most", "floors_fitting": "cases", "nears_fitting": "cases",
    },
    texts: {
        "names_text": "some", "hits_text": "hits", "word_text": "word", "parts_text": "parts", "tree_text": "tree",
        "lines_text": "hits", "names_read": "text", "hits_read": "text", "word_read": "text", "parts_read": "text",
        "tree_read": "text", "lines_read": "text",
    },
    desk: {"is_request": "thing", "replies": "word machines text"},
}
ORDER = ["partpicks." + name for name in (
    "errors", "hits", "steps", "words", "parted", "send", "trees", "beside", "joined", "tables", "rankings", "told",
    "back", "board", "texts", "desk")]


def needed_by(module):
    """The names of the files of the package that this one imports from."""
    tree = ast.parse(inspect.getsource(module))
    return [node.module for node in ast.walk(tree) if isinstance(node, ast.ImportFrom)]


class InterfaceTest(unittest.TestCase):

    def test_arguments(self):
        for module, functions in ARGUMENTS.items():
            for name, arguments in functions.items():
                with self.subTest(name):
                    function = getattr(module, name)
                    self.assertEqual(" ".join(inspect.signature(function).parameters), arguments)

    def test_each_function_is_defined_in_its_file(self):
        for module, functions in ARGUMENTS.items():
            for name in functions:
                with self.subTest(name):
                    self.assertTrue(inspect.isfunction(getattr(module, name)))
                    self.assertEqual(getattr(module, name).__module__, module.__name__)

    def test_each_file_needs_only_those_ahead_of_it(self):
        for module in (errors, board, *ARGUMENTS):
            for name in needed_by(module):
                with self.subTest(module.__name__, needs=name):
                    self.assertNotIn(name, ORDER[ORDER.index(module.__name__):])


if __name__ == "__main__":
    unittest.main()
