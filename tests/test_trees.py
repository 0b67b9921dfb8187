"""Trees and waves: point [9]."""

import itertools
import unittest

from partpicks import errors, hits, parted, trees, words
from partpicks.errors import NoPaper, NoParts, NoTree
from tests.helper import (CAPS, FAR, HITS, LONG_WORDS, MANY, ODD, STEPS, TIES, WIDE, Case, all_parts, deep, picks,
                          small_hits, small_words, those, together, words_of)

EARLY, LATE = (("top", 2), ("each", 0, 1)), (("each", 0, 1), ("top", 2))
BOTH = (("each", 0, 1), ("each", 1, 1))
TWO = (("w", 9, ("s", "p")), ("x", 5, ("s", "q")), ("z", 3, ("t", "q")))
PARTS = (("a", "b"), ("c",), ())
WORDS = small_words(CAPS, 3) + small_words(STEPS, 2) + list(LONG_WORDS)
# Five hits in as many parts, by which trees and orders show and keep many sets.
FIVE = (("a", 9, ("s", "p")), ("b", 8, ("s", "q")), ("c", 8, ("t", "q")), ("d", 7, ("t", "p")), ("e", 5, ("u", "q")))
ALONE = (("a",), ("b",), ("c",), ("d",), ("e",))
CROSSED_WORDS = [EARLY, LATE, BOTH, BOTH[::-1], (("near", 1), ("top", 3), ("each", 1, 1)), (("top", 4), ("each", 0, 1)),
                 (("each", 0, 1), ("floor", 6), ("top", 2), ("each", 1, 1)),
                 (("top", 3), ("each", 1, 2), ("each", 0, 1)),
                 (("each", 1, 1), ("each", 0, 1), ("near", 3)),
                 (("top", 4), ("each", 1, 2), ("top", 3), ("each", 0, 1))]
WRONG_PARTS = ((), ((),), (("a", "b"),), (("a", "b"), ("b", "c")), (("a", "b", "c"), ("a",)), (("q",), ()))


def in_blocks(places):
    """All ways to put these places into one block or more."""
    if not places:
        yield []
        return
    for size in range(len(places)):
        for others in itertools.combinations(places[1:], size):
            rest = tuple(place for place in places[1:] if place not in others)
            for blocks in in_blocks(rest):
                yield [places[:1] + others] + blocks


def all_trees(places):
    """All trees with just these places, in one order each."""
    if len(places) == 1:
        yield places[0]
    for blocks in in_blocks(places):
        if len(blocks) > 1:
            yield from itertools.product(*[list(all_trees(block)) for block in blocks])


def oracle_shown(some, parts, word, tree):
    """The set that is shown by the words of the document."""
    if isinstance(tree, int):
        return picks(those(some, parts[tree]), word)
    return picks(those(some, together([oracle_shown(some, parts, word, one) for one in tree])), word)


def oracle_kept(some, parts, word):
    """The list of the sets that are kept by the words of the document."""
    kept = [()]
    for part in parts:
        kept.append(picks(those(some, kept[-1] + part), word))
    return kept[1:]


def all_ends(some, parts, word):
    """The set of the sets that are kept in the end by some order."""
    return tuple(sorted({oracle_kept(some, order, word)[-1] for order in itertools.permutations(parts)}))


class ExampleTest(Case):

    def test_example(self):
        self.assertEqual(self.follows_example("trees.txt", words_of(trees, errors)), 6)


class IsTreeTest(Case):

    def test_right_ones(self):
        self.judges(trees.is_tree, [0], [1, -1, (0,), (), (0, 0), (0, 1), False, ((0,),)], parts=(("a",),))
        self.judges(trees.is_tree, [0], [1, (0,)], parts=((),))
        self.judges(trees.is_tree, [(0, 1), (1, 0)], [0, 1, (0, 0), (1, 1), (0, 1, 0), (0, 1, 2), (0, 2), ((0, 1),),
                                                      (0, (1,)), ((0,), 1), (0, 1, ()), (0, (1, ()))],
                    parts=((), ()))
        parts = (("a",), (), ("b", "c"), ("d",), ("a",), ("zz",))
        right = [(0, 1, 2, 3, 4, 5), (5, 4, 3, 2, 1, 0), ((0, 5), (1, 4), (2, 3)), (0, (1, (2, (3, (4, 5))))),
                 (((((0, 1), 2), 3), 4), 5), ((3, 1, 4), (5, (2, 0)))]
        self.judges(trees.is_tree, right, [
            (0, 1, 2, 3, 4), (1, 2, 3, 4, 5, 6), (0, 1, 2, 3, 4, 4), ((0, 5), (1, 4), (2, 2)), ((0, 5), (1, 4), 2),
            ((0, 1, 2, 3, 4, 5),), (0, (1, (2, (3, (4, (5,)))))), (-1, 0, 1, 2, 3, 4), (0, 1, 2, 3, (4, 5), 5),
            [0, 1, 2, 3, 4, 5], [(0, 5), (1, 4), (2, 3)], ((0, 5), [1, 4], (2, 3)), (0, (1, (2, (3, [4, 5])))),
            (0, True, 2, 3, 4, 5), (False, 1, 2, 3, 4, 5), ((False, 5), (1, 4), (2, 3)), (0, None, 2, 3, 4, 5),
            (0, "1", 2, 3, 4, 5), ("012345",), ((0, 1, 2), "345"), (0, 1, 2, 3, 4, 5, ()), (FAR, 1, 2, 3, 4, 5),
        ], parts=parts)

    def test_odd_things(self):
        for parts in (((), ()), PARTS, (("a",), ("b",), (), ("d",), ("e",), ("f",))):
            self.judges(trees.is_tree, [], [*ODD, deep(12), [0, 1], (None, None), ((), ()), ("a", "b"), [[0, 1], 2]],
                        parts=parts)
        self.judges(trees.is_tree, [], ODD[:3] + ODD[4:] + ((), [0], (False,)), parts=((),))
        self.judges(trees.is_tree, [], ODD + ((), 0), parts=())

    def test_all_trees_of_four(self):
        found = list(all_trees((0, 1, 2, 3)))
        self.assertEqual(len(found), 26)
        for tree in found:
            self.assertIs(trees.is_tree((("a",), (), ("c",), ("b",)), tree), True)
            self.assertIs(trees.is_tree((("a",), (), ("c",), ("b",), ()), tree), False)
            self.assertIs(trees.is_tree((("a",), (), ("c",)), tree), False)


class ShownTest(Case):

    def test_ordinary_ones(self):
        for some, parts, word, tree, names in (
            (HITS, PARTS, EARLY, (0, 1, 2), ("a", "c")), (HITS, PARTS, EARLY, ((2, 1), 0), ("a", "c")),
            (HITS, (("a", "b", "c"),), EARLY, 0, ("a",)),
            (HITS, (("c",), ("a",), ("b",)), EARLY, (0, (1, 2)), ("a", "c")),
            (HITS, (("c",), ("a",), ("b",)), EARLY, (0, 1, 2), ("a",)),
            (HITS, (("a",), ("b", "c")), (), (1, 0), ("a", "b", "c")),
            (HITS, (("c",), ("a",), ("b",)), EARLY, ((0, 1), 2), ("a",)),
            (TWO, (("x",), ("w",), ("z",)), BOTH, (0, (1, 2)), ("w", "z")),
            (TWO, (("x",), ("w",), ("z",)), BOTH, ((0, 2), 1), ("w",)),
            (TWO, (("x",), ("w",), ("z",)), BOTH, (0, 1, 2), ("w", "z")),
            ((), ((), ()), BOTH, (1, 0), ()), ((), ((),), EARLY, 0, ()),
            (WIDE, (("far",), ("low",)), (("near", 2 * FAR - 1),), (1, 0), ("far",)),
        ):
            self.gives(names, trees.shown, hits=some, parts=parts, word=word, tree=tree)

    def test_six_parts(self):
        some = FIVE + (("f", 5, ("u", "p")),)
        parts = ALONE + (("f",),)
        for tree in ((0, 1, 2, 3, 4, 5), (((((0, 1), 2), 3), 4), 5), ((5, 2), (3, 1, 4), 0),
                     (5, (4, (3, (2, (1, 0)))))):
            for word in CROSSED_WORDS[:3]:
                names = oracle_shown(some, parts, word, tree)
                self.gives(names, trees.shown, hits=some, parts=parts, word=word, tree=tree)

    def test_all_trees_of_small_hits(self):
        rows = list(itertools.product(CROSSED_WORDS, (FIVE[:4],), list(all_parts(FIVE[:4], 4))[::5]))
        for word, some, parts in rows:
            for tree in all_trees((0, 1, 2, 3)):
                names = oracle_shown(some, parts, word, tree)
                self.assertEqual(trees.shown(some, parts, word, tree), names, (some, parts, word, tree))
                wrong = names != picks(some, word)
                self.assertIs(trees.is_wrong_tree(some, parts, word, tree), wrong, (some, parts, word, tree))


class TreeShowsTest(Case):

    def shows(self, some, parts, word):
        """All sets that trees show, and a wrong tree if there is one, by the words of the document."""
        told = {oracle_shown(some, parts, word, tree) for tree in all_trees(tuple(range(len(parts))))}
        self.assertEqual(trees.tree_shows(some, parts, word), tuple(sorted(told)), (some, parts, word))
        right = picks(some, word)
        if told == {right}:
            with self.assertRaises(NoPaper, msg=(some, parts, word)):
                trees.wrong_tree(some, parts, word)
            return
        tree = trees.wrong_tree(some, parts, word)
        self.assertTrue(trees.is_tree(parts, tree), (some, parts, word, tree))
        self.assertNotEqual(oracle_shown(some, parts, word, tree), right, (some, parts, word, tree))

    def test_ordinary_ones(self):
        for some, parts, word, sets in (
            (HITS, PARTS, EARLY, (("a", "c"),)), (HITS, (("a",), ("b",), ("c",)), EARLY, (("a",), ("a", "c"))),
            (HITS, (("a", "b", "c"),), EARLY, (("a",),)), (HITS, PARTS, LATE, (("a", "c"),)),
            ((), ((), (), ()), BOTH, ((),)),
            (TWO, (("x",), ("w",), ("z",)), BOTH, (("w",), ("w", "z"))), ((), ((),), EARLY, ((),)),
        ):
            self.gives(sets, trees.tree_shows, hits=some, parts=parts, word=word)

    def test_small_hits_in_few_parts(self):
        for many, word in itertools.product((1, 2, 3), CROSSED_WORDS):
            for parts in all_parts(FIVE[:4], many):
                self.shows(FIVE[:4], parts, word)
        for many in (1, 2, 3, 4, 5):
            self.shows((), ((),) * many, EARLY)

    def test_all_trees_of_five(self):
        places = (0, 1, 2, 3, 4)
        self.assertEqual(len(list(all_trees(places))), 236)
        for word in CROSSED_WORDS[::2]:
            for parts in (ALONE, ALONE[::-1], (("b", "e"), (), ("a",), ("c",), ("d",))):
                self.shows(FIVE, parts, word)

    def test_four_parts(self):
        for word in CROSSED_WORDS:
            self.shows(FIVE, (("a", "d"), ("c",), ("b",), ("e",)), word)
            self.shows(FIVE, (("c",), ("a", "e"), ("d",), ("b",)), word)

    def test_wrong_tree_however_it_is_asked_for(self):
        for some, parts, word in ((HITS, PARTS, EARLY), (HITS, (("a",), ("b",), ("c",)), EARLY), (FIVE, ALONE, BOTH),
                                  (FIVE, ALONE, CROSSED_WORDS[7]), (TWO, (("x",), ("w",), ("z",)), BOTH)):
            tree = self.told(trees.wrong_tree, hits=some, parts=parts, word=word)
            self.gives(True, trees.is_wrong_tree, hits=some, parts=parts, word=word, thing=tree)
            self.assertNotEqual(oracle_shown(some, parts, word, tree), picks(some, word))

    def test_no_wrong_tree(self):
        for some, parts, word in ((HITS, PARTS, LATE), (HITS, (("a", "b", "c"),), EARLY), ((), ((), ()), EARLY),
                                  (HITS, (("a", "c"), ("b",)), EARLY), (FIVE, ALONE, (("top", 3),)), ((), ((),), ())):
            self.fails(NoPaper, {}, trees.wrong_tree, hits=some, parts=parts, word=word)


class IsWrongTreeTest(Case):

    def test_right_and_wrong_ones(self):
        self.judges(trees.is_wrong_tree, [(0, 1, 2), ((2, 1), 0), (0, (1, 2)), ((0, 2), 1)], [
            *ODD, (), (0, 1), (0, 1, 1), [0, 1, 2], ((2, 1), [0]), ([2, 1], 0), ((0, 1, 2),), (0, True, 2), (1, 2, 3),
            (0, 1, 2, 3), (False, 1, 2), ((0, 1), (1, 2)), HITS, EARLY,
        ], hits=HITS, parts=PARTS, word=EARLY)
        self.judges(trees.is_wrong_tree, [], [(0, 1, 2), ((2, 1), 0), (0, 1), None], hits=HITS, parts=PARTS, word=LATE)
        self.judges(trees.is_wrong_tree, [(0, (1, 2)), ((2, 1), 0)], [(0, 1, 2), ((0, 1), 2), ((0, 2), 1)],
                    hits=HITS, parts=(("c",), ("a",), ("b",)), word=EARLY)
        self.judges(trees.is_wrong_tree, [], [0, (0,), 1, *ODD[:9]], hits=HITS, parts=(("a", "b", "c"),), word=EARLY)
        self.judges(trees.is_wrong_tree, [], [(0, 1), 0, (1, 0)], hits=(), parts=((), ()), word=EARLY)


class WavesTest(Case):

    def test_ordinary_ones(self):
        for some, parts, word, sets in (
            (HITS, PARTS, EARLY, [("a",), ("a", "c"), ("a", "c")]),
            (HITS, (("c",), ("a", "b")), EARLY, [("c",), ("a",)]),
            (HITS, (("c",), ("a",), ("b",)), EARLY, [("c",), ("a", "c"), ("a",)]), ((), ((), ()), BOTH, [(), ()]),
            (HITS, ((), ("a", "b", "c")), EARLY, [(), ("a",)]), (HITS, (("a", "b", "c"),), (), [("a", "b", "c")]),
            (TWO, (("x", "z"), ("w",)), BOTH, [("x",), ("w",)]),
            (TWO, (("w",), ("x", "z")), BOTH, [("w",), ("w", "z")]),
            (TIES, (("q",), ("m",), ("n", "o"), ("p",)), (("near", 2), ("top", 2)),
             [("q",), ("m",), ("m", "n"), ("n", "p")]),
            ((), ((),), EARLY, [()]),
        ):
            self.gives(sets, trees.kept_along, hits=some, parts=parts, word=word)

    def test_wave_ends(self):
        for some, parts, word, sets in (
            (HITS, PARTS, EARLY, (("a",), ("a", "c"))), (HITS, PARTS, LATE, (("a", "c"),)), ((), ((), ()), BOTH, ((),)),
            (HITS, (("a", "b", "c"),), EARLY, (("a",),)), (TWO, (("x", "z"), ("w",)), BOTH, (("w",), ("w", "z"))),
            (HITS, (("a",), ("b",), ("c",)), EARLY, (("a",), ("a", "c"))), ((), ((),), EARLY, ((),)),
        ):
            self.gives(sets, trees.wave_ends, hits=some, parts=parts, word=word)

    def test_small_hits(self):
        for many, word in itertools.product((1, 2, 3), CROSSED_WORDS):
            for parts in all_parts(FIVE[:4], many):
                kept = oracle_kept(FIVE[:4], parts, word)
                self.assertEqual(trees.kept_along(FIVE[:4], parts, word), kept, (parts, word))
                ends = all_ends(FIVE[:4], parts, word)
                self.assertEqual(trees.wave_ends(FIVE[:4], parts, word), ends, (parts, word))

    def test_all_orders_of_five(self):
        for word in CROSSED_WORDS:
            self.assertEqual(trees.wave_ends(FIVE, ALONE, word), all_ends(FIVE, ALONE, word), word)

    def test_six_waves_of_twelve_hits(self):
        some = tuple((name, at % 7, ("stu"[at % 3],)) for at, name in enumerate("abcdefghijkl"))
        parts = (("a", "g"), ("b", "c", "l"), (), ("d", "e", "f"), ("h", "i", "k"), ("j",))
        for word in ((("top", 3), ("each", 0, 1)), (("each", 0, 2), ("top", 4)),
                     (("near", 2), ("top", 5), ("each", 0, 2))):
            self.gives(oracle_kept(some, parts, word), trees.kept_along, hits=some, parts=parts, word=word)


class GuaranteesTest(Case):

    def test_trees_and_waves_are_right_if_the_word_may_be_parted(self):
        rows = [(some, word) for some in small_hits("abc", (0, 1), (("s", "p"), ("s", "q"), ("t", "q")))[::7]
                for word in small_words(STEPS, 2) if parted.may_be_parted(word)]
        for some, word in rows:
            right = (picks(some, word),)
            for parts in (("a",), ("b",), ("c",)), (("a", "c"), ("b",)), (("c",), (), ("a", "b")):
                self.assertEqual(trees.tree_shows(some, parts, word), right, (some, word, parts))
                self.assertEqual(trees.wave_ends(some, parts, word), right, (some, word, parts))

    def test_what_is_picked_stays(self):
        for some in small_hits("abc", (0, 1), (("s", "p"), ("s", "q"), ("t", "q")))[::5]:
            for word in small_words(STEPS, 2):
                names = picks(some, word)
                parts = (names, tuple(hit[0] for hit in some if hit[0] not in names))
                self.assertEqual(trees.kept_along(some, parts, word)[0], names, (some, word))
                self.assertEqual(trees.shown(some, (("a", "b", "c"), ()), word, (0, 1)), names, (some, word))


class WavePaperTest(Case):

    def is_paper(self, word, paper):
        """The paper is one by the words of the document."""
        self.assertIs(type(paper), tuple, word)
        some, parts = paper
        self.assertTrue(hits.is_hits(some) and hits.is_parts(some, parts), (word, paper))
        self.assertEqual(len(parts), 2, (word, paper))
        self.assertGreaterEqual(hits.kinds(some), words.kinds_needed(word), (word, paper))
        self.assertNotEqual(oracle_kept(some, parts, word)[-1], picks(some, word), (word, paper))
        self.assertTrue(trees.is_wave_paper(word, paper), (word, paper))

    def test_all_small_words(self):
        for word in WORDS:
            if parted.may_be_parted(word):
                with self.assertRaises(NoPaper, msg=word):
                    trees.wave_paper(word)
            else:
                self.is_paper(word, trees.wave_paper(word))

    def test_numbers_up_to_five(self):
        for one, other, third in itertools.product((1, 2, 3, 4, 5), repeat=3):
            for word in (
                (("each", 1, one), ("each", 0, other), ("each", 2, third)), (("top", one), ("each", 1, other)),
                (("each", 2, one), ("each", 0, other), ("top", third), ("each", 1, one)),
                (("each", 0, one), ("top", other), ("each", 1, third), ("top", 5), ("each", 2, one), ("top", third)),
            ):
                if not parted.may_be_parted(word):
                    self.is_paper(word, trees.wave_paper(word))

    def test_the_same_paper_however_it_is_asked_for(self):
        for word in (EARLY, BOTH) + LONG_WORDS[:3]:
            self.is_paper(word, self.told(trees.wave_paper, word=word))

    def test_no_paper(self):
        for word in ((), LATE, (("top", 1),), (("floor", 1), ("each", 2, 3)), (("top", 2), ("each", 0, 2), ("near", 0)),
                     (("near", FAR), ("each", 1, 3), ("each", 0, 2), ("top", 1))):
            self.fails(NoPaper, {}, trees.wave_paper, word=word)

    def test_is_wave_paper(self):
        right = (HITS, (("a", "b"), ("c",)))
        wide = tuple((name, score, labels + ("m", "n")) for name, score, labels in HITS)
        self.judges(trees.is_wave_paper, [
            right, (wide, right[1]), (HITS, ((), ("a", "b"), (), ("c",))), (HITS, (("b",), ("a",), ("c",))),
        ], [
            *ODD, (), (HITS,), right[1], right + ((),), list(right), (list(HITS), right[1]), (HITS, list(right[1])),
            (HITS, (("a", "b"), ["c"])), (HITS, (("c",), ("a", "b"))), (HITS, (("a", "b"), ("b", "c"))), (right,),
            (HITS, (("a", "b"),)), (HITS, ()), (HITS, (("b", "a"), ("c",))), (HITS, None), (None, right[1]),
            (HITS[::-1], right[1]), ((), ((), ())), ((), ((),)), (HITS, (("a", "b", "c"),)),
            (HITS, (("a",), ("c",), ("b",))),
            (HITS, (("a",), ("b", "c"))), (tuple(list(hit) for hit in HITS), right[1]), ((), ()), (right[1], HITS),
        ], word=EARLY)
        self.judges(trees.is_wave_paper, [(TWO, (("x", "z"), ("w",))), (TWO, (("z",), ("x",), ("w",)))],
                    [(TWO, (("w",), ("x", "z"))), (TWO, (("x",), ("w",), ("z",))), right], word=BOTH)
        self.judges(trees.is_wave_paper, [(wide, right[1])], [right], word=EARLY + (("each", 2, 2),))
        self.judges(trees.is_wave_paper, [], [right, (wide, right[1]), (TWO, (("x", "z"), ("w",))), *ODD[:9]],
                    word=LATE)

    def test_however_many_hits_and_parts(self):
        names = tuple(hit[0] for hit in MANY[6:])
        some = tuple((name, 30 - at, ("s" if at < 19 else "t",)) for at, name in enumerate(names))
        single = tuple((name,) for name in names)
        self.judges(trees.is_wave_paper, [(some, (names[:-1], names[-1:])), (some, single)],
                    [(some, (names, ())), (some, (names[-1:], names[:-1])), (some, (names,))],
                    word=(("top", 19), ("each", 0, 1)))


class ErrorsTest(Case):

    def test_no_parts(self):
        for parts, word in itertools.product(WRONG_PARTS, (EARLY, LATE)):
            for function in (trees.tree_shows, trees.wrong_tree, trees.kept_along, trees.wave_ends):
                self.fails(NoParts, {}, function, hits=HITS, parts=parts, word=word)
            for tree in (0, 1, (0, 1), (0, 1, 2), (5, 5), ()):
                self.fails(NoParts, {}, trees.shown, hits=HITS, parts=parts, word=word, tree=tree)
            for thing in (0, (0, 1), None, True, [], "a", ((),)):
                self.fails(NoParts, {}, trees.is_wrong_tree, hits=HITS, parts=parts, word=word, thing=thing)
        for function in (trees.tree_shows, trees.wrong_tree, trees.kept_along, trees.wave_ends):
            self.fails(NoParts, {}, function, hits=(), parts=(), word=())
            self.fails(NoParts, {}, function, hits=(), parts=(("a",),), word=EARLY)

    def test_no_tree(self):
        for tree in (0, 1, -1, 3, (0, 1), (0, 1, 1), (0, 1, 2, 2), (1, 2, 3), (0, 1, 2, 3), ((0, 1, 2),), (0, (1,), 2),
                     (),
                     (0, 1, 2, ()), ((0, 1), (1, 2)), (0, (1, (2,))), (-1, 0, 1), ((0, 1), (2, (3, 4))), FAR, deep(40)):
            self.fails(NoTree, {}, trees.shown, hits=HITS, parts=PARTS, word=EARLY, tree=tree)
        for tree in (1, (0,), (0, 0), (0, 1), ()):
            self.fails(NoTree, {}, trees.shown, hits=(), parts=((),), word=EARLY, tree=tree)


if __name__ == "__main__":
    unittest.main()
