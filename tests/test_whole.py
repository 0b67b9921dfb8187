"""The whole program [1]: the same page, however it is made."""

import itertools
import unittest

from partpicks.beside import only_by
from partpicks.board import Board
from partpicks.desk import replies
from partpicks.hits import renamed_hits
from partpicks.joined import joined, joined_parted
from partpicks.parted import is_right, may_be_parted, parted_paper, picked_parted
from partpicks.send import picked_of, send_word, sent
from partpicks.steps import page, picked
from partpicks.tables import has_outcast, is_same_by_covers, is_same_by_cuts, picked_from, picker_of
from partpicks.texts import (hits_read, hits_text, lines_read, lines_text, names_read, names_text, parts_read,
                             parts_text, tree_read, tree_text, word_read, word_text)
from partpicks.told import come_in, lost
from partpicks.trees import kept_along, shown, tree_shows
from partpicks.words import raised_word, reduced
from tests.helper import CAPS, HITS, STEPS, TIES, WIDE, all_parts, left_of, names_in, small_words

TWO = (("w", 9, ("s", "p")), ("x", 5, ("s", "q")), ("z", 3, ("t", "q")))
MANY_WORDS = small_words(STEPS, 3)[::7] + [
    word for word in small_words(CAPS, 3)[::5] if all(step[1] < 2 for step in word if step[0] == "each")]
TREES = {1: (0,), 2: ((0, 1),), 3: ((0, 1, 2), ((2, 0), 1), (1, (0, 2)))}


def best_first(some, word):
    """The page by the words of the document."""
    left = left_of(some, word)[-1]
    return names_in(sorted(left, key=lambda hit: (-hit[1], hit[0])))


def few_parts(some):
    """Some parts of the hits, of one set, of two and of three ones."""
    rows = [(names_in(some),)] + list(all_parts(some, 2))[1::5] + list(all_parts(some, 3))[2::17]
    return rows[:7]


class SamePageTest(unittest.TestCase):

    def calls(self):
        """Hits, words for them, and parts of them."""
        for some, word in itertools.product((TWO, TIES), MANY_WORDS):
            yield some, word, few_parts(some)
        for some, word in itertools.product((HITS, WIDE, ()), small_words(STEPS[:5] + STEPS[7:], 2)[::3]):
            yield some, word, few_parts(some)

    def test_by_the_word_and_by_its_reduced_word(self):
        for some, word, _ in self.calls():
            names = best_first(some, word)
            self.assertEqual(page(some, word), names, (some, word))
            self.assertEqual(page(some, reduced(word)), names, (some, word))
            self.assertEqual(only_by(some, word, reduced(word)), (), (some, word))
            raised = tuple((name, score - 7, labels) for name, score, labels in some)
            self.assertEqual(page(raised, raised_word(word, -7)), names, (some, word))

    def test_from_a_board(self):
        for some, word, rows in self.calls():
            names = best_first(some, word)
            for parts in rows[1:3]:
                board = Board((), len(parts))
                for name, score, labels in some[::-1]:
                    board.come(name, score, labels, 0)
                for at, part in enumerate(parts):
                    for name in part:
                        board.move(name, at)
                board.change(word)
                self.assertEqual((board.hits(), board.parts()), (some, parts))
                self.assertEqual(page(board.hits(), board.word()), names, (some, word))
                self.assertEqual(board.picked(), tuple(sorted(names)), (some, word))
                self.assertEqual(board.shown() == board.picked(), is_right(some, parts, word), (some, word, parts))
                self.assertEqual(board.lost(), lost(some, parts, word), (some, word, parts))
                board.gather()
                self.assertEqual(board.shown(), tuple(sorted(names)), (some, word))

    def test_from_texts_read_back(self):
        for some, word, rows in self.calls():
            names = best_first(some, word)
            read = word_read(word_text(word))
            self.assertEqual(page(hits_read(hits_text(some)), read), names, (some, word))
            self.assertEqual(page(lines_read(lines_text(some)), read), names, (some, word))
            self.assertEqual(names_read(names_text(names)), names, (some, word))
            for parts in rows:
                told = picked_parted(some, parts_read(parts_text(parts)), read)
                self.assertEqual(told, picked_parted(some, parts, word), (some, word, parts))

    def test_at_the_desk(self):
        for some, word, rows in self.calls():
            names, parts = best_first(some, word), rows[-1]
            machine = {name: at for at, part in enumerate(parts) for name in part}
            lines = [f"come {name} {score} {machine[name]} {' '.join(labels)}" for name, score, labels in some]
            asked = ["page", "picked", "right", "hits", "parts", "word", "reduced",
                     "change " + word_text(reduced(word)),
                     "page", "gather", "shown"]
            told = replies(word, len(parts), "\n".join(lines + asked))[len(some):]
            inner, right = names_text(sorted(names)), "yes" if is_right(some, parts, word) else "no"
            self.assertEqual(told,
                             [names_text(names), inner, right, hits_text(some), parts_text(parts), word_text(word),
                                    word_text(reduced(word)), word_text(word), names_text(names), "done", inner])

    def test_by_trees_and_waves_if_the_word_may_be_parted(self):
        for some, word, rows in self.calls():
            names = tuple(sorted(best_first(some, word)))
            for parts in rows:
                for tree in TREES[len(parts)]:
                    told = shown(some, parts, word, tree_read(tree_text(tree)))
                    self.assertIn(told, tree_shows(some, parts, word), (some, word, parts, tree))
                    if may_be_parted(word):
                        self.assertEqual(told, names, (some, word, parts, tree))
                if may_be_parted(word):
                    self.assertEqual(tree_shows(some, parts, word), (names,), (some, word, parts))
                    self.assertEqual(kept_along(some, parts, word)[-1], names, (some, word, parts))
                    gone, come = lost(some, parts, word), come_in(some, parts, word)
                    self.assertEqual((gone, come), ((), ()), (some, word, parts))

    def test_by_what_is_sent(self):
        for some, word, rows in self.calls():
            names = picked(some, word)
            for parts in rows:
                self.assertEqual(picked_of(some, tuple(sent(some, parts, word)), word), names, (some, word, parts))
                # One tree in which only the last step of all picks by the whole word.
                left = picked_parted(some, parts, send_word(word))
                self.assertEqual(picked_of(some, (left,), word), names, (some, word, parts))

    def test_by_tables_and_by_joined_words(self):
        for some, word, rows in self.calls():
            if some:
                picker = picker_of(some, word)
                self.assertEqual(picked_from(picker, picker[0]), picked(some, word), (some, word))
                if may_be_parted(word):
                    self.assertTrue(is_same_by_cuts(picker), (some, word))
            for parts, way in itertools.product(rows, ("any", "all")):
                told = joined_parted(some, parts, (word, reduced(word)), way)
                self.assertEqual(told, picked_parted(some, parts, word), (some, word, parts))
                self.assertEqual(joined(some, (word,), way), picked(some, word), (some, word))

    def test_papers_go_wrong_everywhere(self):
        for word in [word for word in MANY_WORDS if not may_be_parted(word)][::3]:
            some, parts = parted_paper(word)
            self.assertFalse(is_right(some, parts, word), word)
            self.assertNotEqual(shown(some, parts, word, (0, 1)), picked(some, word), word)
            self.assertNotEqual((lost(some, parts, word), come_in(some, parts, word)), ((), ()), word)
            self.assertEqual(picked_of(some, tuple(sent(some, parts, word)), word), picked(some, word), word)
            if len(some) <= 5:
                self.assertFalse(is_same_by_covers(picker_of(some, word)), word)

    def test_a_word_that_may_be_parted_has_outcast(self):
        for some, word in itertools.product((TWO, TIES), [word for word in MANY_WORDS if may_be_parted(word)]):
            self.assertTrue(has_outcast(picker_of(some, word)), (some, word))
            # Names hardly matter where no two scores are alike.
            later = renamed_hits(TWO, (("w", "m"), ("z", "a")))
            self.assertEqual(len(picked(later, word)), len(picked(TWO, word)), word)


if __name__ == "__main__":
    unittest.main()
