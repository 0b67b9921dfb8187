"""Hits in parts, and which words may be parted: point [7]."""

import itertools
import unittest

from partpicks import errors, hits, parted, words
from partpicks.errors import NoKind, NoPaper, NoParts
from tests.helper import (CAPS, FAR, HITS, LONG_WORDS, MANY, ODD, STEPS, TIES, WIDE, Case, all_parts, picks,
                          picks_parted, small_hits, small_words, words_of)

EARLY, LATE = (("top", 2), ("each", 0, 1)), (("each", 0, 1), ("top", 2))
BOTH = (("each", 0, 1), ("each", 1, 1))
TWO = (("w", 9, ("s", "p")), ("x", 5, ("s", "q")), ("z", 3, ("t", "q")))
WORDS = small_words(CAPS, 3) + small_words(STEPS, 2) + list(LONG_WORDS)
# Words that may be parted: no cap, one top, one each, one each and then one top; with caps that do nothing, too.
GOOD = [
    (), (("top", 1),), (("top", 3),), (("each", 0, 1),), (("each", 2, 2),), (("each", 0, 1), ("top", 2)),
    (("each", 1, 2), ("top", 4)), (("top", 3), ("top", 2)), (("top", 2), ("each", 0, 2)), (("each", 1, 3), ("top", 3)),
    (("each", 0, 3), ("each", 1, 1), ("top", 1)), (("top", 2), ("each", 0, 5), ("each", 1, 2)),
    (("floor", 3),), (("near", 1),), (("near", 2), ("floor", -1), ("each", 0, 1)), (("top", 4), ("near", 0)),
    (("each", 0, 1), ("near", 2), ("floor", 1), ("top", 3), ("top", 7)), (("top", FAR),), (("each", 1, FAR),),
    (("top", 2), ("each", 0, 1), ("top", 1)), (("floor", FAR), ("near", FAR), ("each", 2, 1), ("top", FAR)),
    (("top", 5), ("floor", 1), ("each", 0, 9), ("near", 3), ("top", 4), ("each", 1, 4), ("top", 4), ("near", 5)),
]
BAD = [
    EARLY, BOTH, (("top", 3), ("each", 1, 2)), (("each", 0, 1), ("top", 2), ("each", 1, 1)),
    (("each", 2, 3), ("each", 0, 3), ("each", 1, 3)), (("each", 0, 1), ("each", 2, 1), ("top", 2)),
    (("floor", 3), ("top", 2), ("near", 0), ("each", 0, 1)), (("top", FAR), ("each", 0, 1)),
    (("top", 2), ("each", 0, 1), ("top", 2)), (("top", 4), ("each", 2, 1), ("top", 2)),
    (("each", 1, 1), ("each", 0, FAR)),
]


def oracle_barred_at(word):
    """The least pair of places by the words of the document."""
    steps = words.reduced(word)
    pairs = [(one, other) for one, other in itertools.combinations(range(len(steps)), 2)
             if steps[one][0] in ("top", "each") and steps[other][0] == "each"]
    return min(pairs, default=None)


def labelled(names, labels):
    """All hits with these names, the first one the best, and with such labels."""
    for row in itertools.product(labels, repeat=len(names)):
        yield tuple((name, -at, label) for at, (name, label) in enumerate(zip(names, row)))


class ExampleTest(Case):

    def test_example(self):
        self.assertEqual(self.follows_example("parted.txt", words_of(parted, errors)), 6)


class PickedPartedTest(Case):

    def test_ordinary_ones(self):
        for some, parts, word, names in (
            (HITS, (("a", "b"), ("c",)), EARLY, ("a", "c")), (HITS, (("a", "c"), ("b",)), EARLY, ("a",)),
            (HITS, (("a",), ("b",), ("c",)), EARLY, ("a",)), (HITS, (("a", "b", "c"),), EARLY, ("a",)),
            (HITS, ((), ("c",), (), ("a", "b"), ()), EARLY, ("a", "c")), (HITS, (("c",), ("a", "b")), LATE, ("a", "c")),
            (TWO, (("w",), ("x", "z")), BOTH, ("w",)), (TWO, (("w", "x"), ("z",)), BOTH, ("w", "z")),
            (TIES, (("m", "q"), ("n", "o"), ("p",)), (("near", 2), ("top", 3)), ("m", "n", "p")),
            (TIES, (("m", "q"), ("n", "o", "p")), (("floor", 6), ("each", 1, 1)), ("n", "p")),
            (TIES, (("m", "n", "o", "p", "q"), ()), (), ("m", "n", "o", "p", "q")),
            (WIDE, (("low",), ("far",)), (("near", 2 * FAR - 1),), ("far",)),
            (WIDE, (("low",), ("far",)), (("floor", -FAR), ("each", 2, 1)), ("far", "low")),
            ((), ((),), EARLY, ()), ((), ((), (), ()), (("each", 2, 1),), ()),
        ):
            self.gives(names, parted.picked_parted, hits=some, parts=parts, word=word)
            self.gives(names == picks(some, word), parted.is_right, hits=some, parts=parts, word=word)

    def test_twelve_hits_in_six_parts(self):
        some = tuple((name, score % 5, (label,)) for score, (name, label) in enumerate(zip("abcdefghijkl", "sstu" * 3)))
        parts = (("a", "l"), ("b", "k"), ("c", "j"), ("d", "i"), ("e", "h"), ("f", "g"))
        for word in ((("top", 4), ("each", 0, 1)), (("each", 0, 1), ("top", 4)), (("near", 2),), (("top", 1),)):
            self.gives(picks_parted(some, parts, word), parted.picked_parted, hits=some, parts=parts, word=word)

    def test_all_small_hits_in_all_parts(self):
        rows = small_hits("abc", (0, 1), (("s", "p"), ("s", "q"), ("t", "q")))
        for some in [()] + rows[::13]:
            for parts, word in itertools.product(list(all_parts(some, 3))[::2], small_words(STEPS, 2)):
                names = picks_parted(some, parts, word)
                self.assertEqual(parted.picked_parted(some, parts, word), names, (some, parts, word))
                self.assertIs(parted.is_right(some, parts, word), names == picks(some, word), (some, parts, word))


class MayBePartedTest(Case):

    def test_ordinary_ones(self):
        for word in GOOD:
            self.gives(True, parted.may_be_parted, word=word)
            self.gives(None, parted.barred_at, word=word)
        for word in BAD:
            self.gives(False, parted.may_be_parted, word=word)

    def test_barred_at(self):
        for word, pair in (
            (EARLY, (0, 1)), (BOTH, (0, 1)), ((("each", 0, 1), ("top", 2), ("each", 1, 1)), (0, 2)),
            ((("near", 0), ("top", 5), ("each", 0, 2), ("floor", 1), ("top", 3), ("each", 1, 1)), (2, 3)),
            ((("floor", 9),) + BOTH, (1, 2)), ((("near", 9),) + BOTH, (1, 2)),
            ((("top", 2), ("each", 0, 2), ("each", 1, 1)), (0, 1)), (BOTH + (("top", 1), ("near", 4)), None),
            (LONG_WORDS[0], (2, 4)), (LONG_WORDS[1], (2, 3)), (LONG_WORDS[3], (2, 3)), (LONG_WORDS[7], (0, 1)),
        ):
            self.gives(pair, parted.barred_at, word=word)

    def test_all_small_words(self):
        for word in WORDS:
            pair = oracle_barred_at(word)
            self.assertEqual(parted.barred_at(word), pair, word)
            self.assertIs(parted.may_be_parted(word), pair is None, word)

    def test_all_parts_of_small_hits_are_right_if_the_word_may_be_parted(self):
        one_kind = [(some, tuple(word)) for some in labelled("abcd", (("s",), ("t",), ("u",)))
                    for word in small_words((("each", 0, 1), ("each", 0, 2), ("top", 2), ("top", 3)), 2)]
        scored = [(some, word) for some in small_hits("abc", (0, 1, 2), (("s",), ("t",)))
                  for word in small_words((("floor", 1), ("near", 0), ("near", 1), ("top", 2), ("each", 0, 1)), 3)]
        for some, word in one_kind + scored[::7]:
            if parted.may_be_parted(word):
                for parts in all_parts(some, 2):
                    self.assertTrue(parted.is_right(some, parts, word), (some, parts, word))
                    self.assertEqual(picks_parted(some, parts, word), picks(some, word), (some, parts, word))

    def test_three_parts_of_hits_of_three_kinds_are_right_if_the_word_may_be_parted(self):
        rows = (("s", "p", "m"), ("t", "p", "m"), ("s", "q", "n"), ("t", "q", "m"))
        for some in list(labelled("abcde", rows))[::61]:
            for word in [word for word in small_words(CAPS, 2) if parted.may_be_parted(word)]:
                for parts in list(all_parts(some, 3))[::7]:
                    self.assertTrue(parted.is_right(some, parts, word), (some, parts, word))


class PaperTest(Case):

    def is_paper(self, word, paper):
        """The paper is one by the words of the document."""
        self.assertIs(type(paper), tuple, word)
        some, parts = paper
        self.assertTrue(hits.is_hits(some) and hits.is_parts(some, parts), (word, paper))
        self.assertEqual(len(parts), 2, (word, paper))
        self.assertGreaterEqual(hits.kinds(some), words.kinds_needed(word), (word, paper))
        self.assertNotEqual(picks_parted(some, parts, word), picks(some, word), (word, paper))

    def has_its_paper(self, word):
        """The word has a paper exactly if it may not be parted."""
        if oracle_barred_at(word) is None:
            with self.assertRaises(NoPaper, msg=word):
                parted.parted_paper(word)
        else:
            paper = parted.parted_paper(word)
            self.is_paper(word, paper)
            self.assertTrue(parted.is_parted_paper(word, paper), (word, paper))

    def test_all_small_words(self):
        for word in WORDS:
            self.has_its_paper(word)

    def test_numbers_up_to_five(self):
        for one, other, third in itertools.product((1, 2, 3, 4, 5), repeat=3):
            for word in (
                (("each", 2, one), ("each", 0, other)), (("top", one), ("each", 1, other), ("each", 0, third)),
                (("each", 1, one), ("top", other), ("each", 2, third)),
                (("each", 1, one), ("each", 0, other), ("each", 2, third)),
                (("each", 2, one), ("each", 0, other), ("top", third)),
                (("each", 2, one), ("each", 0, other), ("top", third), ("each", 1, one)),
                (("each", 0, one), ("top", other), ("each", 1, third), ("top", 5), ("each", 2, one), ("top", third)),
            ):
                self.has_its_paper(word)

    def test_floors_and_nears_bar_nobody_by_chance(self):
        for ahead in itertools.product((("floor", -FAR), ("floor", 0), ("floor", FAR)), (("near", 0), ("near", FAR))):
            for word in (EARLY, BOTH, (("each", 1, 2), ("top", 3), ("each", 0, 1))):
                self.is_paper(ahead + word, parted.parted_paper(ahead + word))

    def test_numbers_beyond_five(self):
        for word in ((("top", 30), ("each", 0, 29)), (("each", 0, 28), ("each", 1, 30)),
                     (("each", 1, 30), ("each", 0, 1))):
            self.is_paper(word, parted.parted_paper(word))

    def test_the_same_paper_however_it_is_asked_for(self):
        for word in (EARLY, BOTH) + LONG_WORDS[:3]:
            self.is_paper(word, self.told(parted.parted_paper, word=word))

    def test_no_paper(self):
        for word in GOOD:
            self.fails(NoPaper, {}, parted.parted_paper, word=word)


class IsPaperTest(Case):

    def test_right_ones(self):
        wide = tuple((name, score, labels + ("m", "n")) for name, score, labels in HITS)
        far = (("a", FAR ** 2, ("s",)), ("b", -FAR ** 2, ("s",)), ("c", -FAR ** 3, ("t",)))
        many = MANY[:-2] + (("zza", 99, ("t",)), ("zzb", -5, ("t",)))
        self.judges(parted.is_parted_paper, [
            (HITS, (("a", "b"), ("c",))), (HITS, (("c",), ("a", "b"))), (HITS, ((),) * 9 + (("c",), (), ("a", "b"))),
            (wide, (("a", "b"), ("c",))), (far, (("a", "b"), ("c",))),
        ], [(many, (("zza", "zzb"), tuple(hit[0] for hit in MANY[:-2])))], word=EARLY)
        self.judges(parted.is_parted_paper, [(TWO, (("w",), ("x", "z"))), (TWO, (("x", "z"), ("w",)))],
                    [(TWO, (("w", "x", "z"),)), (TWO, (("w", "x"), ("z",))), (TWO, (("w",), ("x",), ("z",)))],
                    word=BOTH)

    def test_however_many_hits_and_parts(self):
        names = tuple(hit[0] for hit in MANY[6:])
        some = tuple((name, 30 - at, ("s" if at < 19 else "t",)) for at, name in enumerate(names))
        word = (("top", 19), ("each", 0, 1))
        self.judges(parted.is_parted_paper, [(some, (names[:-1], names[-1:])),
                                             (some, (names[1:-1], names[:1], names[-1:]))],
                    [(some, (names,)), (some, ((), names))], word=word)
        single = tuple((name,) for name in names)
        self.judges(parted.is_parted_paper, [], [(some, single)], word=word)

    def test_wrong_ones(self):
        right = (HITS, (("a", "b"), ("c",)))
        self.judges(parted.is_parted_paper, [right], [
            *ODD, (), (HITS,), right[1], right + ((),), list(right), (list(HITS), right[1]), (HITS, list(right[1])),
            (HITS, (("a", "b"), ["c"])), (HITS, (["a", "b"], ("c",))), (HITS, (("a", "b"), ("b", "c"))),
            (HITS, (("a", "b"),)), (HITS, ()), (HITS, (("b", "a"), ("c",))), (HITS, None), (None, right[1]),
            (HITS[::-1], right[1]), (HITS[:2], (("a",), ("b",))), ((), ((),)), ((), ()), (right[1], HITS),
            (HITS, (("a", "b", "c"),)), (HITS, (("a",), ("b", "c"))), (HITS, (("a", "c"), ("b",))), (right,),
            (HITS + (("d", 1, ()),), (("a", "b"), ("c", "d"))), (tuple(list(hit) for hit in HITS), right[1]),
            ((("a", 10, ("s",)), ("b", True, ("s",)), ("c", 0, ("t",))), right[1]), (HITS, (("a", "b"), ("c", "d"))),
        ], word=EARLY)

    def test_too_few_kinds(self):
        for word in ((("top", 2), ("each", 0, 1), ("each", 1, 9)), (("top", 2), ("each", 0, 1), ("each", 2, 2))):
            self.judges(parted.is_parted_paper, [], [(HITS, (("a", "b"), ("c",))), ((), ((), ()))], word=word)
        wide = tuple((name, score, labels + ("m",)) for name, score, labels in HITS)
        self.judges(parted.is_parted_paper, [(wide, (("a", "b"), ("c",)))], [],
                    word=(("top", 2), ("each", 0, 1), ("each", 1, 2)))
        self.judges(parted.is_parted_paper, [], [(wide, (("a", "b"), ("c",)))],
                    word=(("top", 2), ("each", 0, 1), ("each", 2, 2)))

    def test_words_that_may_be_parted_have_none(self):
        for word in GOOD:
            self.judges(parted.is_parted_paper, [], [(HITS, (("a", "b"), ("c",))), (TWO, (("w",), ("x", "z"))),
                                                     *ODD[:9]],
                        word=word)

    def test_all_parts_of_small_hits(self):
        for some in small_hits("abc", (0, 1), (("s", "p"), ("s", "q"), ("t", "q")))[::3]:
            for parts, word in itertools.product(all_parts(some, 2), (EARLY, LATE, BOTH, (("near", 0),) + BOTH[::-1])):
                answer = picks_parted(some, parts, word) != picks(some, word)
                self.assertIs(parted.is_parted_paper(word, (some, parts)), answer, (word, some, parts))


class ErrorsTest(Case):
    wrong = ((), ((),), (("a", "b"),), (("a",), ("c",)), (("a", "b"), ("b", "c")), (("a", "b", "c"), ("a",)),
             (("a", "b"), ("d",)), (("q",), (), ()))

    def test_no_parts(self):
        for function, parts in itertools.product((parted.picked_parted, parted.is_right), self.wrong):
            self.fails(NoParts, {}, function, hits=HITS, parts=parts, word=EARLY)
            self.fails(NoParts, {}, function, hits=HITS, parts=parts, word=())
        for function, parts in itertools.product((parted.picked_parted, parted.is_right),
                                                 ((), (("a",),), ((), ("b",)))):
            self.fails(NoParts, {}, function, hits=(), parts=parts, word=LATE)

    def test_no_parts_comes_ahead_of_no_kind(self):
        for function, parts in itertools.product((parted.picked_parted, parted.is_right), self.wrong):
            self.fails(NoParts, {}, function, hits=HITS, parts=parts, word=BOTH)

    def test_no_kind(self):
        for function in (parted.picked_parted, parted.is_right):
            for parts in ((("a", "b"), ("c",)), (("a", "b", "c"),), ((), ("a", "b", "c"))):
                self.fails(NoKind, {"kind": 1}, function, hits=HITS, parts=parts, word=BOTH)
                word = (("floor", 99), ("each", 2, 1), ("each", 0, 1), ("each", 1, 1))
                self.fails(NoKind, {"kind": 2}, function, hits=HITS, parts=parts, word=word)
                self.fails(NoKind, {"kind": 2}, function, hits=HITS, parts=parts, word=(("top", 1), ("each", 2, 5)))
            self.gives(parted.is_right == function or (), function, hits=(), parts=((), ()), word=BOTH)


if __name__ == "__main__":
    unittest.main()
