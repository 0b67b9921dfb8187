"""Told hits and all their cuts: point [13]."""

import itertools
import unittest

from partpicks import errors, parted, told
from partpicks.errors import NoName, NoParts
from tests.helper import (FAR, HITS, MANY, ODD, STEPS, TIES, WIDE, Case, all_parts, less, picks, picks_parted,
                          small_hits, small_words, together, words_of)

EARLY, LATE = (("top", 2), ("each", 0, 1)), (("each", 0, 1), ("top", 2))
BOTH = (("each", 0, 1), ("each", 1, 1))
TWO = (("w", 9, ("s", "p")), ("x", 5, ("s", "q")), ("z", 3, ("t", "q")))
PARTS = (("a", "b"), ("c",))
WRONG_PARTS = ((), ((),), (("a", "b"),), (("a", "b"), ("b", "c")), (("a", "b", "c"), ("a",)), (("q",), ()))
CROSSED = small_hits("abc", (0, 1), (("s", "p"), ("s", "q"), ("t", "q")))
WORDS = small_words(STEPS, 2)[::3] + [EARLY, LATE, BOTH, BOTH[::-1], (("top", 2), ("near", 0), ("each", 1, 1))]
# Eight hits; by many cuts the words below lose some of them and let others in.
EIGHT = (("a", 9, ("s", "p")), ("b", 9, ("s", "q")), ("c", 8, ("t", "q")), ("d", 7, ("t", "p")), ("e", 7, ("u", "q")),
         ("f", 6, ("u", "r")), ("g", 5, ("s", "r")), ("h", 1, ("v", "p")))
EIGHT_WORDS = (BOTH, BOTH[::-1], (("top", 5), ("each", 0, 1)), (("each", 0, 1), ("top", 3), ("each", 1, 1)),
               (("near", 4), ("each", 1, 1), ("each", 0, 2)), (("each", 0, 1), ("top", 3)),
               (("each", 0, 1), ("each", 1, 2)))


def cuts_of(some):
    """All cuts of the hits, ascending: the least name lies in the first set; for no hits there is one cut."""
    names = tuple(hit[0] for hit in some)
    if not names:
        return [((), ())]
    return sorted(parts for parts in all_parts(some, 2) if names[0] in parts[0])


def lost_by(some, cut, word):
    """The hits that are lost by the words of the document."""
    return less(picks(some, word), picks_parted(some, cut, word))


class ExampleTest(Case):

    def test_example(self):
        self.assertEqual(self.follows_example("told.txt", words_of(told, errors)), 5)


class LostTest(Case):

    def test_ordinary_ones(self):
        for some, parts, word, gone, come in (
            (HITS, PARTS, EARLY, (), ("c",)), (HITS, PARTS, LATE, (), ()), (HITS, (("a",), ("b", "c")), EARLY, (), ()),
            (TWO, (("w",), ("x", "z")), BOTH, ("z",), ()), (TWO, (("x", "z"), (), ("w",)), BOTH, ("z",), ()),
            (TWO, (("w", "x"), ("z",)), BOTH, (), ()), (TIES, (("m", "n", "o", "p", "q"),), EARLY, (), ()),
            ((), ((),), EARLY, (), ()), ((), ((), (), ()), BOTH, (), ()),
            (WIDE, (("far",), ("low",)), (("near", FAR), ("top", 2)), (), ()),
            (EIGHT, (("a", "c", "e", "g"), ("b", "d", "f", "h")), (("top", 5), ("each", 0, 1)), (), ()),
            (EIGHT, (("a", "b", "g"), ("c", "d", "e", "f", "h")), (("top", 5), ("each", 0, 1)), (), ("h",)),
        ):
            self.gives(gone, told.lost, hits=some, parts=parts, word=word)
            self.gives(come, told.come_in, hits=some, parts=parts, word=word)

    def test_all_small_hits_in_all_parts(self):
        for some in [()] + CROSSED[::11]:
            for parts, word in itertools.product(list(all_parts(some, 3))[::2], WORDS):
                right, names = picks(some, word), picks_parted(some, parts, word)
                self.assertEqual(told.lost(some, parts, word), less(right, names), (some, parts, word))
                self.assertEqual(told.come_in(some, parts, word), less(names, right), (some, parts, word))

    def test_twelve_hits_in_six_parts(self):
        some = tuple((name, score % 5, (label,)) for score, (name, label) in enumerate(zip("abcdefghijkl", "sstu" * 3)))
        parts = (("a", "l"), ("b", "k"), ("c", "j"), ("d", "i"), ("e", "h"), ("f", "g"))
        for word in (EARLY, LATE, (("top", 5), ("each", 0, 1), ("near", 1))):
            right, names = picks(some, word), picks_parted(some, parts, word)
            self.gives(less(right, names), told.lost, hits=some, parts=parts, word=word)
            self.gives(less(names, right), told.come_in, hits=some, parts=parts, word=word)

    def test_no_parts(self):
        for function, parts in itertools.product((told.lost, told.come_in), WRONG_PARTS):
            for word in (EARLY, (), (("each", 2, 1),)):
                self.fails(NoParts, {}, function, hits=HITS, parts=parts, word=word)
        for function in (told.lost, told.come_in):
            self.fails(NoParts, {}, function, hits=(), parts=(), word=EARLY)
            self.fails(NoParts, {}, function, hits=(), parts=(("a",),), word=EARLY)


class CutsTest(Case):

    def is_told(self, some, word, call):
        """All that is told of the cuts is so by the words of the document; call makes a call and compares."""
        cuts, right = cuts_of(some), picks(some, word)
        wrong = [cut for cut in cuts if picks_parted(some, cut, word) != right]
        sets = [picks_parted(some, cut, word) for cut in cuts]
        call(len(cuts) - len(wrong), told.how_many_right, hits=some, word=word)
        call(len(wrong), told.how_many_wrong, hits=some, word=word)
        call(wrong[0] if wrong else None, told.wrong_cut, hits=some, word=word)
        most = max(len(lost_by(some, cut, word)) for cut in cuts)
        call(most, told.most_lost, hits=some, word=word)
        call(tuple(sorted(set.intersection(*map(set, sets)))), told.surely_shown, hits=some, word=word)
        call(together(sets), told.maybe_shown, hits=some, word=word)
        worst = told.worst_cut(some, word)
        self.assertIn(worst, cuts, (some, word))
        self.assertEqual(len(lost_by(some, worst, word)), most, (some, word, worst))
        call(worst, told.worst_cut, hits=some, word=word)
        call(True, told.is_worst_cut, hits=some, word=word, thing=worst)
        for name in [hit[0] for hit in some]:
            cut = told.cut_losing(some, word, name)
            call(cut, told.cut_losing, hits=some, word=word, name=name)
            if cut is None:
                self.assertFalse([cut for cut in cuts if name in lost_by(some, cut, word)], (some, word, name))
            else:
                self.assertIn(cut, cuts, (some, word, name))
                self.assertIn(name, lost_by(some, cut, word), (some, word, cut))
                call(True, told.is_cut_losing, hits=some, word=word, name=name, thing=cut)

    def quickly(self, expected, function, **arguments):
        """The function returns this, called by names alone."""
        self.assertEqual(function(**arguments), expected, (function, arguments))

    def test_ordinary_ones(self):
        for some, word in (
            (HITS, EARLY), (HITS, LATE), (HITS, ()), (TWO, BOTH), (TWO, BOTH[::-1]), ((), EARLY), ((), BOTH), ((), ()),
            (HITS[:1], EARLY), (TWO[1:], BOTH), (TIES, (("top", 4), ("each", 1, 1))), (WIDE, (("near", FAR),) + BOTH),
            (WIDE, (("floor", -FAR), ("each", 2, 1), ("each", 0, 1))), (HITS, (("floor", 11),)),
        ):
            self.is_told(some, word, self.gives)

    def test_all_small_hits(self):
        for some, word in itertools.product(CROSSED[::5], WORDS):
            self.is_told(some, word, self.quickly)

    def test_eight_hits(self):
        for word in EIGHT_WORDS:
            self.is_told(EIGHT, word, self.quickly)
        self.assertEqual(told.how_many_right(EIGHT, LATE) + told.how_many_wrong(EIGHT, LATE), 128)
        self.assertEqual([told.most_lost(EIGHT, word) for word in EIGHT_WORDS], [1, 1, 0, 1, 0, 0, 2])

    def test_words_that_may_be_parted_are_right_by_all_cuts(self):
        for word in [word for word in small_words(STEPS, 2) if parted.may_be_parted(word)]:
            self.assertEqual(told.how_many_right(EIGHT[2:], word), 32, word)
            self.assertEqual(told.wrong_cut(EIGHT[2:], word), None, word)
            names = picks(EIGHT[2:], word)
            self.assertEqual((told.surely_shown(EIGHT[2:], word), told.maybe_shown(EIGHT[2:], word)), (names, names))

    def test_right_by_one_whole_set_and_by_single_hits(self):
        for some, word in itertools.product(CROSSED[::7] + [EIGHT, TIES, HITS], WORDS):
            kinds = max([step[1] + 1 for step in word if step[0] == "each"], default=0)
            if kinds <= len(some[0][2]):
                names = tuple(hit[0] for hit in some)
                for parts in ((names, ()), tuple((name,) for name in names), ((),) + tuple((name,) for name in names)):
                    self.assertEqual(told.lost(some, parts, word), (), (some, parts, word))
                    self.assertEqual(told.come_in(some, parts, word), (), (some, parts, word))


class JudgedTest(Case):
    wrong = [
        *ODD, (), PARTS + ((),), list(PARTS), (list(PARTS[0]), PARTS[1]), (PARTS[0], ["c"]), PARTS[::-1], PARTS[:1],
        (("a", "b"), ()), (("a", "b"), ("b", "c")), (("a", "b"), ("c", "d")), ((), ("a", "b", "c")),
        (("b", "a"), ("c",)),
        (("b", "c"), ("a",)), (PARTS,), (("a", "b"), None), (None, ("c",)), (("a", "b"), "c"), ("ab", "c"),
        (("a", "b", "c"),), ((), ()), (("a", "a", "b"), ("c",)), (("a", "b", "q"), ("c",)), (("a",), ("b",), ("c",)),
    ]

    def test_is_worst_cut(self):
        self.judges(told.is_worst_cut, cuts_of(HITS), self.wrong, hits=HITS, word=EARLY)
        # w alone; x and z in another part, where x bars z: that is the one cut that loses a hit.
        cut = (("w",), ("x", "z"))
        self.judges(told.is_worst_cut, [cut], [*[one for one in cuts_of(TWO) if one != cut], cut[::-1], cut + ((),)],
                    hits=TWO, word=BOTH)
        self.judges(told.is_worst_cut, [((), ())], [(), ((),), ((), (), ()), [(), ()], ([], ()), (("a",), ()), None],
                    hits=(), word=EARLY)
        self.judges(told.is_worst_cut, [(("a",), ())], [((), ("a",)), (("a",),), (("a",), ("a",))], hits=HITS[:1],
                    word=EARLY)

    def test_is_cut_losing(self):
        cut = (("w",), ("x", "z"))
        wrong = [*[one for one in cuts_of(TWO) if one != cut], cut[::-1], cut + ((),), list(cut), (["w"], cut[1]),
                 cut[:1], (cut[0], ["x", "z"]), (cut[0], ("z", "x")), (("w", "q"), cut[1]), (("w", "x"), ("x", "z")),
                 *ODD]
        self.judges(told.is_cut_losing, [cut], wrong, hits=TWO, word=BOTH, name="z")
        for name in "wx":
            self.judges(told.is_cut_losing, [], [cut, *wrong], hits=TWO, word=BOTH, name=name)
        self.judges(told.is_cut_losing, [], [*cuts_of(HITS), *self.wrong], hits=HITS, word=EARLY, name="c")

    def test_all_cuts_of_small_hits(self):
        for some, word in itertools.product(CROSSED[::17] + [EIGHT], WORDS[::4] + [BOTH]):
            most = max(len(lost_by(some, cut, word)) for cut in cuts_of(some))
            for cut in cuts_of(some)[::3]:
                gone = lost_by(some, cut, word)
                self.assertIs(told.is_worst_cut(some, word, cut), len(gone) == most, (some, word, cut))
                for name in [hit[0] for hit in some]:
                    self.assertIs(told.is_cut_losing(some, word, name, cut), name in gone, (some, word, name, cut))

    def test_many_sets(self):
        names = tuple(hit[0] for hit in MANY)
        self.judges(told.is_worst_cut, [], [(names, ()), (names[:5], names[5:]), tuple((name,) for name in names)],
                    hits=HITS, word=EARLY)

    def test_no_name(self):
        for some, name in ((HITS, "d"), (HITS, "aa"), ((), "a"), (TWO, "a"), (EIGHT, "zzzzzzzz")):
            self.fails(NoName, {"name": name}, told.cut_losing, hits=some, word=EARLY, name=name)
            for thing in (None, (), ((), ()), PARTS, 7, [PARTS], "a"):
                self.fails(NoName, {"name": name}, told.is_cut_losing, hits=some, word=EARLY, name=name, thing=thing)


if __name__ == "__main__":
    unittest.main()
