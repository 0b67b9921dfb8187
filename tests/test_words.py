"""Reduced words: point [6]."""

import itertools
import unittest

from partpicks import errors, steps, words
from partpicks.errors import NoNumber
from tests.helper import FAR, STEPS, Case, left_of, names_in, small_hits, small_words, words_of

MIXED = (("top", 3), ("near", 5), ("each", 1, 3), ("floor", 2), ("near", 4))
CAPS = (("top", 1), ("top", 2), ("top", 3), ("each", 0, 1), ("each", 0, 2), ("each", 0, 3), ("each", 1, 2),
        ("each", 2, 3))
ALL_CAPS = small_words(CAPS, 4)
# With floors and nears at any place; the numbers of all steps come to their edges.
ALL_WORDS = small_words(STEPS[:3] + (("floor", 2), ("each", 0, 1), ("each", 1, 2), ("top", 1), ("top", 2)), 3)


def out_by_rules(word):
    """The pairs (rule, place) by the words of the document."""
    pairs = []
    caps = [place for place, step in enumerate(word) if step[0] in ("top", "each")]
    for at, place in enumerate(caps):
        ahead = [word[other] for other in caps[:at]]
        directly = word[caps[at + 1]] if at + 1 < len(caps) else ("none", 0)
        top, number = word[place][0] == "top", word[place][-1]
        told = {
            1: top and any(other[0] == "top" and other[1] <= number for other in ahead),
            2: not top and any(other[0] == "top" and other[1] <= number for other in ahead),
            3: top and directly[0] == "top" and directly[1] < number,
            4: not top and directly[0] == "top" and directly[1] <= number,
            5: any(word[other] == ("top", 1) for other in caps[at + 1:]),
        }
        pairs.extend((rule, place) for rule in told if told[rule])
    return sorted(pairs)


def all_ends(word, known):
    """The set of the words that can be left when the rules take out caps in any order."""
    if word not in known:
        places = {place for _, place in words.takes_out(word)}
        ends = [all_ends(word[:place] + word[place + 1:], known) for place in places]
        known[word] = set().union(*ends) if ends else {word}
    return known[word]


class ExampleTest(Case):

    def test_example(self):
        self.assertEqual(self.follows_example("words.txt", words_of(words, errors)), 5)


class PartsOfWordsTest(Case):

    def test_kinds_needed(self):
        for many, word in ((0, ()), (0, (("top", 1), ("floor", 5), ("near", 3))), (1, (("each", 0, 9),)),
                           (2, (("each", 1, 1),)), (3, (("top", 2), ("each", 2, 1), ("each", 0, 1))),
                           (3, (("each", 0, 1), ("each", 2, 1)))):
            self.gives(many, words.kinds_needed, word=word)

    def test_floor_of(self):
        for number, word in ((None, ()), (None, (("near", 3), ("top", 1), ("each", 0, 2))), (-4, (("floor", -4),)),
                             (0, (("floor", 0),)), (7, (("floor", 5), ("top", 9), ("floor", 7), ("near", 8))),
                             (-3, (("floor", -3), ("floor", -FAR))), (FAR, (("floor", FAR), ("floor", 0)))):
            self.gives(number, words.floor_of, word=word)

    def test_near_of(self):
        for number, word in ((None, ()), (None, (("floor", 3), ("top", 1), ("each", 0, 2))), (0, (("near", 0),)),
                             (5, (("near", 7), ("floor", 1), ("near", 5), ("top", 1), ("near", 6))),
                             (FAR, (("near", FAR),))):
            self.gives(number, words.near_of, word=word)

    def test_caps(self):
        self.gives((), words.caps, word=())
        self.gives((), words.caps, word=(("floor", 1), ("near", 1)))
        word = (("floor", 1), ("each", 1, 1), ("near", 1), ("top", 2), ("each", 0, 2), ("floor", 2), ("top", 2))
        self.gives((("each", 1, 1), ("top", 2), ("each", 0, 2), ("top", 2)), words.caps, word=word)

    def test_without_step(self):
        self.gives((), words.without_step, word=(("top", 1),), place=0)
        self.gives(MIXED[1:], words.without_step, word=MIXED, place=0)
        self.gives(MIXED[:2] + MIXED[3:], words.without_step, word=MIXED, place=2)
        self.gives(MIXED[:4], words.without_step, word=MIXED, place=4)

    def test_no_number(self):
        for place in (5, 6, -1, -5, FAR, -FAR):
            self.fails(NoNumber, {"number": place}, words.without_step, word=MIXED, place=place)
        for place in (0, -1, 1):
            self.fails(NoNumber, {"number": place}, words.without_step, word=(), place=place)

    def test_raised_word(self):
        self.gives((), words.raised_word, word=(), number=3)
        self.gives((("floor", 2), ("near", 5), ("top", 5), ("each", 2, 5), ("floor", -4)), words.raised_word,
                   word=(("floor", 5), ("near", 5), ("top", 5), ("each", 2, 5), ("floor", -1)), number=-3)
        self.gives((("floor", 2 * FAR),), words.raised_word, word=(("floor", FAR),), number=FAR)
        self.gives(MIXED, words.raised_word, word=MIXED, number=0)

    def test_raised_word_picks_of_raised_hits_what_the_word_picks(self):
        some = (("a", 2, ("s", "p")), ("b", 1, ("t", "p")), ("c", 0, ("t", "q")))
        for word, number in itertools.product(small_words(STEPS, 2), (-2, 1, FAR)):
            higher = tuple((name, score + number, labels) for name, score, labels in some)
            self.assertEqual(steps.picked(higher, words.raised_word(word, number)), steps.picked(some, word))

    def test_turned_kinds(self):
        word = (("top", 1), ("each", 0, 2), ("floor", 0), ("each", 2, 1), ("near", 1), ("each", 1, 2))
        for turn in itertools.permutations((0, 1, 2)):
            self.gives((("top", 1), ("each", turn[0], 2), ("floor", 0), ("each", turn[2], 1), ("near", 1),
                        ("each", turn[1], 2)), words.turned_kinds, word=word, turn=turn)
        self.gives((), words.turned_kinds, word=(), turn=(1, 2, 0))
        self.gives((("each", 1, 1),), words.turned_kinds, word=(("each", 0, 1),), turn=(1, 2, 0))


class RulesTest(Case):

    def test_takes_out_nothing(self):
        for word in ((), (("top", 1),), (("floor", 1), ("near", 2)), (("top", 2), ("each", 0, 1)),
                     (("each", 0, 1), ("top", 2)), (("each", 0, 1), ("each", 1, 1)), (("each", 0, 2), ("each", 1, 1)),
                     (("top", 1), ("near", 0), ("floor", 1)), (("each", 0, 3), ("each", 1, 2), ("top", 3))):
            self.gives([], words.takes_out, word=word)

    def test_single_rules(self):
        for pairs, word in (
            ([(1, 1)], (("top", 2), ("top", 2))), ([(1, 1)], (("top", 2), ("top", 3))),
            ([(3, 0)], (("top", 3), ("top", 2))), ([(2, 1)], (("top", 2), ("each", 0, 2))),
            ([(2, 1)], (("top", 2), ("each", 0, 3))), ([(4, 0)], (("each", 0, 2), ("top", 2))),
            ([(4, 0)], (("each", 0, 3), ("top", 2))), ([(4, 0), (5, 0)], (("each", 0, 1), ("top", 1))),
            ([(4, 1), (5, 0), (5, 1)], (("each", 0, 1), ("each", 1, 1), ("top", 1))),
            ([(1, 1), (5, 0)], (("top", 1), ("top", 1))),
        ):
            self.gives(pairs, words.takes_out, word=word)

    def test_somewhere_ahead_and_directly_ahead(self):
        self.gives([(1, 2)], words.takes_out, word=(("top", 2), ("each", 0, 1), ("top", 2)))
        self.gives([(2, 2)], words.takes_out, word=(("top", 2), ("each", 0, 1), ("each", 1, 2)))
        self.gives([], words.takes_out, word=(("top", 3), ("each", 0, 1), ("top", 2)))
        self.gives([], words.takes_out, word=(("each", 0, 3), ("each", 1, 1), ("top", 2)))
        self.gives([(4, 1), (5, 0), (5, 1)], words.takes_out, word=(("top", 3), ("each", 0, 2), ("top", 1)))

    def test_floors_and_nears_between_count_as_places_only(self):
        word = (("near", 3), ("top", 3), ("floor", 1), ("near", 1), ("top", 2), ("floor", 9), ("each", 1, 2))
        self.gives([(2, 6), (3, 1)], words.takes_out, word=word)

    def test_all_small_caps(self):
        for word in ALL_CAPS:
            self.assertEqual(words.takes_out(word), out_by_rules(word), word)

    def test_all_small_words(self):
        for word in ALL_WORDS:
            self.assertEqual(words.takes_out(word), out_by_rules(word), word)


class ReducedTest(Case):

    def test_floors_and_nears(self):
        for left, word in (
            ((), ()), ((("floor", 3),), (("floor", 2), ("floor", 3), ("floor", -5))),
            ((("near", 0),), (("near", 2), ("near", 0))),
            ((("floor", 0), ("near", 0)), (("near", 0), ("floor", 0))),
            ((("floor", -FAR), ("near", FAR), ("top", FAR)), (("top", FAR), ("near", FAR), ("floor", -FAR))),
            ((("floor", 1), ("top", 1)), (("top", 1), ("near", 0), ("floor", 1))),
            ((("top", 1),), (("near", 0), ("each", 0, 1), ("top", 1))),
            ((("near", 0), ("each", 0, 1)), (("each", 0, 1), ("near", 0))),
        ):
            self.gives(left, words.reduced, word=word)

    def test_caps(self):
        for left, word in (
            ((("top", 2),), (("top", 2), ("top", 2))), ((("top", 2),), (("top", 3), ("top", 2), ("top", 3))),
            ((("top", 1),), (("each", 0, 1), ("top", 4), ("each", 1, 1), ("top", 1), ("each", 2, 1))),
            ((("each", 0, 1), ("top", 2)), (("each", 0, 1), ("top", 5), ("each", 1, 3), ("top", 2))),
            ((("top", 3), ("each", 0, 1), ("top", 2), ("each", 1, 1)),
             (("top", 3), ("each", 0, 1), ("top", 2), ("each", 1, 1))),
            ((("each", 1, 2), ("each", 0, 2), ("top", 4)), (("each", 1, 2), ("each", 0, 2), ("top", 4))),
        ):
            self.gives(left, words.reduced, word=word)

    def test_eight_steps(self):
        word = (("top", FAR), ("each", 2, 4), ("near", FAR), ("top", 9), ("floor", -FAR), ("each", 0, 9), ("top", 5),
                ("each", 1, 4))
        self.gives((("floor", -FAR), ("near", FAR), ("top", FAR), ("each", 2, 4), ("top", 5), ("each", 1, 4)),
                   words.reduced, word=word)
        self.gives([(2, 5), (4, 5)], words.takes_out, word=word)

    def test_is_reduced(self):
        for told, word in (
            (True, ()), (True, (("floor", 1), ("near", 2), ("each", 0, 1), ("top", 3))),
            (False, (("near", 2), ("floor", 1))), (False, (("floor", 1), ("floor", 1))),
            (False, (("near", 1), ("near", 1))), (False, (("top", 2), ("near", 1))),
            (False, (("top", 2), ("floor", 1))),
            (False, (("near", 1), ("top", 1))), (True, (("near", 1), ("top", 2))), (False, (("top", 2), ("top", 2))),
            (False, (("each", 0, 2), ("top", 2))), (True, (("each", 0, 2), ("each", 1, 2))),
        ):
            self.gives(told, words.is_reduced, word=word)

    def test_whichever_rules_are_used_first(self):
        known = {}
        for word in ALL_CAPS:
            self.assertEqual(all_ends(word, known), {words.reduced(word)}, word)

    def test_floor_near_and_caps_left(self):
        known = {}
        for word in ALL_WORDS:
            left = words.reduced(word)
            (caps,) = all_ends(tuple(step for step in word if step[0] in ("top", "each")), known)
            floors = [step for step in word if step[0] == "floor"]
            nears = [step for step in word if step[0] == "near" and ("top", 1) not in caps]
            self.assertEqual(left, (*sorted(floors)[-1:], *sorted(nears)[:1], *caps), word)
            self.assertEqual(words.is_reduced(word), left == word, word)
            self.assertTrue(words.is_reduced(left), word)

    def test_the_form_of_reduced_words(self):
        for word in ALL_CAPS:
            left = words.reduced(word)
            tops = [step[1] for step in left if step[0] == "top"]
            self.assertEqual(tops, sorted(set(tops), reverse=True), word)
            for one, other in zip(left, left[1:]):
                self.assertTrue(other[0] == "each" or one[0] == "each" and one[2] < other[1], word)
            self.assertTrue(1 not in tops or left == (("top", 1),), word)

    def test_a_reduced_word_picks_what_the_word_picks(self):
        some = [*small_hits("abcd", (0, 1), (("s", "p"), ("t", "p"), ("t", "q")))[::5],
                *small_hits("abc", (0, 2), (("s", "p"), ("s", "q"))), ()]
        for word in ALL_WORDS[::2]:
            left = words.reduced(word)
            for hits in some[::3]:
                picks = names_in(left_of(hits, word)[-1])
                self.assertEqual(steps.picked(hits, left), picks, (hits, word))


if __name__ == "__main__":
    unittest.main()
