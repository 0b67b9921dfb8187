"""Two words beside one another: point [14]."""

import itertools
import unittest

from partpicks import beside, errors, hits, parted, words
from partpicks.errors import NoKind, NoPaper
from tests.helper import (CAPS, FAR, HITS, LONG_WORDS, MANY, ODD, STEPS, TIES, WIDE, Case, less, picks, small_hits,
                          small_words, words_of)

EARLY, LATE = (("top", 2), ("each", 0, 1)), (("each", 0, 1), ("top", 2))
ONE, OTHER = (("each", 0, 1),), (("each", 1, 1),)
TWO = (("w", 9, ("s", "p")), ("x", 5, ("s", "q")), ("z", 3, ("t", "q")))
CROSSED = small_hits("abc", (0, 1), (("s", "p"), ("s", "q"), ("t", "q")))
# Words of eight steps, straight ones that may be parted, with steps that do nothing.
UNREDUCED = (
    (("top", 3), ("each", 2, 3), ("near", 5), ("floor", 1), ("floor", 0), ("near", 6), ("top", 3), ("each", 1, 3)),
    (("each", 0, 3), ("each", 1, 2), ("top", 3), ("top", 2), ("each", 2, 2), ("floor", 1), ("near", 5), ("near", 7)),
    (("each", 0, 2), ("floor", -2), ("each", 1, 3), ("near", 2), ("top", 3), ("floor", 1), ("near", 9), ("top", 3)),
    (("near", 1), ("each", 2, 1), ("each", 1, 1), ("each", 0, 1), ("top", 1), ("top", 3), ("floor", 1), ("near", 0)),
)
NUMBERS = (1, 2, 3)
AHEAD = [(), (("floor", 1),), (("near", 0),), (("near", 2),), (("floor", 0), ("near", 1)), (("floor", 1), ("near", 0))]
# The reduced words, without floors and nears, that may be parted, with numbers up to three.
PARTED_CAPS = [word for word in small_words(
    [("top", number) for number in NUMBERS] + [("each", kind, number) for kind in (0, 1) for number in NUMBERS], 2)
    if words.is_reduced(word) and parted.may_be_parted(word)]


def straight_caps():
    """All reduced caps of straight words with numbers up to three."""
    eachs = [[("each", kind, number) for number in NUMBERS] for kind in (0, 1, 2)]
    for kinds in [order for size in range(4) for order in itertools.permutations(eachs, size)]:
        for ahead in itertools.product(*kinds):
            yield ahead
            for number in NUMBERS:
                if words.is_reduced(ahead + (("top", number),)):
                    yield ahead + (("top", number),)


def oracle_is_straight(word):
    """Whether nothing stands behind a top, by the words of the document."""
    steps = words.reduced(word)
    return not any(step[0] == "top" and steps[at + 1:] for at, step in enumerate(steps))


def has_kinds_for(some, one, other):
    """Whether the hits have all kinds that the words need; just one if they need none."""
    needed = max([step[1] + 1 for step in one + other if step[0] == "each"], default=0)
    return hits.kinds(some) >= needed if needed else hits.kinds(some) == 1


class ExampleTest(Case):

    def test_example(self):
        self.assertEqual(self.follows_example("beside.txt", words_of(beside, errors)), 6)


class OnlyByTest(Case):

    def test_ordinary_ones(self):
        for some, one, other, names, best in (
            (TWO, ONE, OTHER, ("z",), "x"), (TWO, OTHER, ONE, ("x",), "x"), (TWO, ONE, ONE, (), None),
            (HITS, EARLY, LATE, (), "c"), (HITS, LATE, EARLY, ("c",), "c"),
            (HITS, (), (("floor", 11),), ("a", "b", "c"), "a"),
            (TIES, (("top", 2),), (("each", 0, 1),), (), "m"), (TIES, (("near", 2),), (("each", 0, 1),), ("o",), "o"),
            (TIES, (("floor", 9),), (("each", 1, 2),), (), "n"), ((), ONE, OTHER, (), None), ((), EARLY, (), (), None),
            (WIDE, (("near", FAR),), (("floor", -FAR),), (), "low"),
            (WIDE, (("top", 9),), (("near", 0),), ("low",), "low"),
            (TIES, (), (("top", 1), ("top", 5)), ("m", "o", "p", "q"), "p"),
        ):
            self.gives(names, beside.only_by, hits=some, one=one, other=other)
            self.gives(best, beside.first_unlike, hits=some, one=one, other=other)

    def test_all_small_hits(self):
        for some in CROSSED[::9]:
            for one, other in itertools.product(small_words(STEPS, 2)[::3], small_words(STEPS, 2)[::5]):
                here, there = picks(some, one), picks(some, other)
                self.assertEqual(beside.only_by(some, one, other), less(here, there), (some, one, other))
                unlike = [name for name in hits.best_first(some) if (name in here) != (name in there)]
                self.assertEqual(beside.first_unlike(some, one, other), (unlike + [None])[0], (some, one, other))

    def test_no_kind_for_one_then_for_other(self):
        second, third = (("top", 1), ("each", 1, 1)), (("each", 2, 1), ("each", 1, 1))
        for function in (beside.only_by, beside.first_unlike):
            for one, other, kind in ((second, third, 1), (third, second, 2), (ONE, third, 2), (ONE, second, 1),
                                     (second, ONE, 1), (third, (), 2), ((), second, 1)):
                self.fails(NoKind, {"kind": kind}, function, hits=HITS, one=one, other=other)
            self.fails(NoKind, {"kind": 2}, function, hits=TIES, one=second, other=third)
        self.gives((), beside.only_by, hits=(), one=second, other=third)
        self.gives(None, beside.first_unlike, hits=(), one=second, other=third)


class IsStraightTest(Case):

    def test_ordinary_ones(self):
        for word, answer in (
            ((), True), (EARLY, False), (LATE, True), ((("top", 3),), True), ((("top", 3), ("top", 2)), True),
            ((("top", 2), ("near", 3), ("floor", 1)), True), ((("top", 2), ("each", 0, 2)), True),
            ((("top", 2), ("each", 0, 1), ("top", 1)), True), ((("each", 0, 1), ("each", 2, 3), ("each", 1, 2)), True),
            ((("each", 0, 1), ("each", 2, 3), ("top", 4), ("each", 1, 2)), False), ((("floor", 1), ("near", 2)), True),
            ((("each", 0, 1), ("each", 2, 3), ("top", 4), ("each", 1, 4)), True), (LONG_WORDS[0], False),
            (LONG_WORDS[6], True), (LONG_WORDS[13], True), ((("top", 5), ("each", 0, 4), ("top", 4)), True),
            ((("top", 4), ("each", 0, 2), ("top", 3)), False),
        ):
            self.gives(answer, beside.is_straight, word=word)

    def test_all_small_words(self):
        for word in small_words(CAPS, 3) + small_words(STEPS, 2) + list(LONG_WORDS):
            self.assertIs(beside.is_straight(word), oracle_is_straight(word), word)


class AlikeTest(Case):

    def test_ordinary_ones(self):
        for one, other, answer in (
            ((), (), True), (ONE, OTHER, False), ((("near", 4), ("top", 1)), (("top", 1),), True), (ONE, (), False),
            ((("floor", 1), ("floor", 2)), (("floor", 2),), True), ((("floor", 1),), (("floor", 2),), False),
            ((("near", 1), ("near", 2)), (("near", 1),), True), ((("near", 1),), (), False),
            ((("floor", 1),), (), False),
            ((("top", 2), ("top", 5)), (("each", 1, 2), ("top", 2)), True), (LATE, (("each", 0, 1), ("top", 3)), False),
            ((("near", 0), ("floor", 5)), (("floor", 5), ("near", 0), ("near", FAR)), True), (LATE, ONE, False),
            ((("each", 0, 1), ("each", 1, 1)), (("each", 1, 1), ("each", 0, 1)), False),
            ((("each", 0, 1), ("each", 1, 1), ("top", 1)), (("near", 3), ("each", 2, 9), ("top", 1)), True),
            ((("each", 2, 3), ("floor", 0)), (("each", 2, 2), ("floor", 0)), False), ((("top", FAR),), (), False),
        ):
            self.gives(answer, beside.are_alike, one=one, other=other)
            self.gives(answer, beside.are_alike, one=other, other=one)

    def test_no_small_hits_part_words_that_are_alike(self):
        rows = [word for word in small_words(STEPS, 2) if oracle_is_straight(word)]
        rows += [(("top", 2), ("top", 3), ("near", 1)), (("near", 1), ("each", 0, 2), ("top", 2)),
                 (("top", 4), ("each", 1, 4))]
        for one, other in itertools.combinations(rows, 2):
            parts = [some for some in CROSSED[::17] if picks(some, one) != picks(some, other)]
            if words.reduced(one) == words.reduced(other):
                self.assertIs(beside.are_alike(one, other), True, (one, other))
                self.assertEqual(parts, [], (one, other))
            else:
                self.assertIs(beside.are_alike(one, other), False, (one, other))


class PartingHitsTest(Case):

    def part(self, one, other, some):
        """The hits are such that the words do not pick the same of them, by the words of the document."""
        self.assertTrue(hits.is_hits(some), (one, other, some))
        self.assertTrue(has_kinds_for(some, one, other), (one, other, some))
        self.assertNotEqual(picks(some, one), picks(some, other), (one, other, some))
        self.assertTrue(beside.is_parting_hits(one, other, some), (one, other, some))

    def test_all_caps(self):
        rows = list(straight_caps())
        self.assertEqual(len(rows), len(set(rows)))
        for one, other in list(itertools.product(rows, repeat=2))[::23]:
            if one != other:
                self.part(one, other, beside.parting_hits(one, other))

    def test_eachs_that_stand_the_other_way_round(self):
        rows = [row for row in straight_caps() if {step[1] for step in row if step[0] == "each"} == {0, 1}]
        for one, other in itertools.permutations(rows, 2):
            self.part(one, other, beside.parting_hits(one, other))

    def test_floors_and_nears(self):
        some_caps = list(straight_caps())[::31] + [(), (("top", 1),), (("top", 2),)]
        rows = [ahead + caps for ahead in AHEAD for caps in some_caps]
        for one, other in itertools.product(rows, repeat=2):
            if words.reduced(one) == words.reduced(other):
                with self.assertRaises(NoPaper, msg=(one, other)):
                    beside.parting_hits(one, other)
            else:
                self.part(one, other, beside.parting_hits(one, other))

    def test_numbers_at_their_bounds(self):
        for one, other in (
            ((("floor", FAR),), ()), ((("floor", -FAR),), ()), ((("floor", -FAR),), (("floor", FAR), ("near", 0))),
            ((("near", FAR),), ()), ((("near", FAR), ("floor", FAR)), (("floor", FAR), ("near", FAR - 1))),
            ((("near", 0), ("floor", -FAR), ("top", 3)), (("floor", -FAR), ("top", 3))),
            ((("top", 1),), (("near", FAR),)),
            ((("near", 0), ("each", 2, 1)), (("near", 0), ("top", 1))), ((("near", 0),), (("top", 1),)),
        ):
            self.part(one, other, self.told(beside.parting_hits, one=one, other=other))
            self.part(other, one, self.told(beside.parting_hits, one=other, other=one))

    def test_words_that_are_not_reduced(self):
        for one, other in itertools.permutations(UNREDUCED, 2):
            self.part(one, other, self.told(beside.parting_hits, one=one, other=other))

    def test_no_paper(self):
        for one, other in (((), ()), (ONE, ONE), ((("near", 4), ("top", 1)), (("top", 1),)),
                           (LATE, LATE + (("top", 3),)),
                           ((("each", 2, 2), ("top", 2)), (("top", 2), ("each", 1, 3))),
                           ((("floor", 2),), (("floor", 2),) * 2)):
            self.fails(NoPaper, {}, beside.parting_hits, one=one, other=other)

    def test_is_parting_hits(self):
        wide = tuple((name, score, labels + ("m",)) for name, score, labels in TWO)
        many = MANY[:13] + (("zz", FAR ** 3, ("s",)),)
        self.judges(beside.is_parting_hits, [TWO, wide, TWO[:2], TWO[1:]], [
            *ODD, (), TWO[:1], list(TWO), TWO[::-1], TWO + TWO, HITS, (TWO, ()), (list(TWO[0]),) + TWO[1:], TWO + ((),),
            (TWO,), tuple(list(hit) for hit in TWO), (TWO[0], TWO[2]), TWO[:2] + (("z", 3, ("t",)),),
            (("w", True, ("s", "p")), ("x", False, ("s", "q"))), (("w", 9, ["s", "p"]), ("x", 5, ("s", "q"))),
        ], one=ONE, other=OTHER)
        self.judges(beside.is_parting_hits, [], [TWO, wide, *ODD], one=ONE, other=ONE)
        self.judges(beside.is_parting_hits, [HITS, TWO, MANY, many], [HITS[:1], HITS[:2], MANY[:5][::-1]],
                    one=(("top", 2),), other=())
        self.judges(beside.is_parting_hits, [HITS], [HITS[:2]], one=EARLY, other=LATE)
        self.judges(beside.is_parting_hits, [wide], [TWO, HITS], one=ONE, other=ONE + (("each", 2, 1),))
        self.judges(beside.is_parting_hits, [wide], [TWO, HITS], one=(("each", 2, 3), ("top", 1)), other=())


class WithinTest(Case):

    def test_ordinary_ones(self):
        for one, other, answer in (
            ((), (), True), (ONE, (), True), ((), ONE, False), (ONE, OTHER, False),
            ((("floor", 3),), (("floor", 3),), True),
            ((("floor", 3),), (("floor", 4),), False), ((), (("floor", -FAR),), False),
            ((("floor", 4),), (("floor", 3),), True),
            ((("floor", 2), ("floor", 9)), (("floor", 8), ("floor", 1)), True), ((("near", 1),), (("near", 1),), True),
            ((("near", 1),), (("near", 2),), True), ((("near", 2),), (("near", 1),), False),
            ((), (("near", FAR),), False),
            ((("near", 9), ("near", 1)), (("near", 7), ("near", 1)), True), ((("top", 1),), (("near", 0),), True),
            ((("top", 1),), (("near", 0), ("floor", 0)), False), ((("top", 2),), (("near", 0),), False),
            ((("near", 5),), (("near", 4), ("top", 1)), False), ((("near", 0),), (("top", 1), ("near", 0)), False),
            ((("near", 5), ("top", 1)), (("near", 4), ("top", 1)), True), ((("top", 2),), (("top", 2),), True),
            ((("top", 2),), (("top", 3),), True), ((("top", 3),), (("top", 2),), False), ((("top", 2),), LATE, False),
            ((("top", 2),), (("each", 1, 2),), True), ((("top", 2),), (("each", 1, 1),), False),
            ((("top", 2),), (("each", 1, 2), ("top", 3)), True), ((("top", 1),), LATE, True),
            ((("each", 0, 1),), (("top", 9),), False),
            (LATE, (("top", 2),), False), (LATE, (("top", 9),), False), (ONE, (("each", 0, 2),), True),
            ((("each", 0, 2),), ONE, False), (LATE, ONE, True), (ONE, LATE, False), (LATE, (("each", 1, 1),), False),
            (LATE, (("each", 0, 1), ("top", 3)), True), ((("each", 0, 1), ("top", 3)), LATE, False),
            (LATE, (("each", 0, 2), ("top", 3)), True),
            ((("each", 0, 1), ("top", 3)), (("each", 0, 2), ("top", 4)), False),
            ((("each", 0, 1), ("top", 3)), (("each", 0, 2), ("top", 5)), True),
            ((("each", 2, 2), ("top", 4)), (("each", 2, 3), ("top", 4)), False),
            ((("each", 2, 2), ("top", 4)), (("each", 2, 3), ("top", 5)), True),
            ((("each", 2, 2), ("top", 4)), (("each", 2, 1), ("top", 9)), False),
            ((("each", 1, 3), ("top", 9)), (("each", 1, 5), ("top", 12)), False),
            ((("each", 1, 3), ("top", 9)), (("each", 1, 5), ("top", 13)), True),
            ((("each", 0, 3), ("top", 2)), (("each", 1, 2),), True),
            ((("floor", 1),) + LATE, (("floor", 0),) + ONE, True),
            ((("near", 2), ("floor", 1)) + LATE, (("floor", 0), ("near", 1)) + ONE, False),
        ):
            self.gives(answer, beside.is_within, one=one, other=other)

    def test_all_caps_against_all_small_hits(self):
        rows = [tuple((name, -at, label) for at, (name, label) in enumerate(zip("abcdef", labels)))
                for labels in itertools.product((("s", "p"), ("s", "q"), ("t", "q")), repeat=5)]
        for labels in itertools.product("stu", repeat=6):
            rows.append(tuple((name, 0, (label, "p")) for name, label in zip("abcdef", labels)))
            rows.append(tuple((name, 0, (name, label)) for name, label in zip("abcdef", labels)))
        rows.append(tuple((name, 0, (name, name)) for name in "abcdef"))
        sets = {word: [set(picks(some, word)) for some in rows] for word in PARTED_CAPS}
        for one, other in itertools.product(PARTED_CAPS, repeat=2):
            answer = all(here <= there for here, there in zip(sets[one], sets[other]))
            self.assertIs(beside.is_within(one, other), answer, (one, other))

    def test_floors_and_nears_against_all_small_hits(self):
        rows = small_hits("abc", (-1, 0, 1, 2, 4), (("s",), ("t",)))
        some_caps = ((), (("top", 1),), (("top", 2),), ONE)
        some_words = [ahead + caps for ahead in AHEAD + [(("floor", 0),)] for caps in some_caps]
        sets = {word: [set(picks(some, word)) for some in rows] for word in some_words}
        for one, other in itertools.product(some_words, repeat=2):
            answer = all(here <= there for here, there in zip(sets[one], sets[other]))
            self.assertIs(beside.is_within(one, other), answer, (one, other))


class WithinPaperTest(Case):

    def is_paper(self, one, other, paper):
        """The paper is one by the words of the document."""
        self.assertIs(type(paper), tuple, (one, other, paper))
        some, name = paper
        self.assertTrue(hits.is_hits(some), (one, other, paper))
        self.assertTrue(has_kinds_for(some, one, other), (one, other, paper))
        self.assertIn(name, picks(some, one), (one, other, paper))
        self.assertNotIn(name, picks(some, other), (one, other, paper))
        self.assertTrue(beside.is_within_paper(one, other, paper), (one, other, paper))

    def has_its_paper(self, one, other):
        """There is a paper exactly if one is not within other."""
        if beside.is_within(one, other):
            with self.assertRaises(NoPaper, msg=(one, other)):
                beside.within_paper(one, other)
        else:
            self.is_paper(one, other, beside.within_paper(one, other))

    def test_all_caps(self):
        for one, other in itertools.product(PARTED_CAPS, repeat=2):
            self.has_its_paper(one, other)

    def test_floors_and_nears(self):
        some_caps = PARTED_CAPS[::4] + [(("top", 1),), (("each", 2, 2), ("top", 3))]
        rows = [ahead + caps for ahead in AHEAD for caps in some_caps]
        for one, other in itertools.product(rows, repeat=2):
            self.has_its_paper(one, other)

    def test_words_that_are_not_reduced(self):
        for one, other in itertools.permutations(UNREDUCED, 2):
            self.has_its_paper(one, other)

    def test_numbers_at_their_bounds(self):
        for one, other in (
            ((), (("floor", FAR),)), ((), (("floor", -FAR),)), ((("floor", -FAR),), (("floor", FAR), ("near", 0))),
            ((), (("near", FAR),)), ((("near", FAR), ("floor", FAR)), (("floor", FAR), ("near", FAR - 1))),
            ((("floor", FAR), ("each", 2, 1)), (("near", 0), ("floor", -FAR), ("top", 2))),
            ((("near", FAR),), (("top", 1),)),
            ((("floor", -FAR), ("top", 3)), (("each", 1, 2),)), ((("near", 0),) + ONE, (("near", 0),) + OTHER),
        ):
            self.is_paper(one, other, self.told(beside.within_paper, one=one, other=other))

    def test_no_paper(self):
        for one, other in (((), ()), (ONE, ()), (LATE, ONE), ((("top", 1),), (("near", 0),)),
                           ((("floor", 3),), (("floor", -3),)),
                           (LATE, (("each", 0, 2), ("top", 3))), ((("top", 2),), (("each", 2, 2),)),
                           ((("near", 3),), (("near", FAR),))):
            self.fails(NoPaper, {}, beside.within_paper, one=one, other=other)

    def test_is_within_paper(self):
        wide = tuple((name, score, labels + ("m",)) for name, score, labels in TWO)
        self.judges(beside.is_within_paper, [(TWO, "z"), (wide, "z"), (TWO[1:], "z")], [
            *ODD, (), (TWO, "x"), (TWO, "w"), (TWO, "q"), (TWO, ""), (TWO, None), (TWO, ("z",)), (TWO, "zz"),
            (TWO, True),
            [TWO, "z"], (list(TWO), "z"), (TWO[::-1], "z"), (HITS, "c"), ((), "z"), (TWO, "z", "z"), (TWO,), ("z", TWO),
            (TWO[1:], "x"), (TWO[:2], "z"), (TWO, 2), ((), ()), (tuple(list(hit) for hit in TWO), "z"), (None, "z"),
            (TWO, ["z"]), TWO, ((TWO, "z"),),
        ], one=ONE, other=OTHER)
        self.judges(beside.is_within_paper, [(TWO, "x")], [(TWO, "z"), (TWO, "w")], one=OTHER, other=ONE)
        self.judges(beside.is_within_paper, [], [(TWO, name) for name in "wxz"] + list(ODD), one=ONE, other=ONE)
        self.judges(beside.is_within_paper, [(HITS, "c")], [(HITS, "a"), (HITS, "b")], one=LATE, other=EARLY)
        self.judges(beside.is_within_paper, [(wide, "x")], [(TWO, "x"), (HITS, "b")], one=(),
                    other=ONE + (("each", 2, 9),))
        self.judges(beside.is_within_paper, [(MANY, MANY[0][0]), (MANY, MANY[23][0])], [(MANY, MANY[24][0])],
                    one=(), other=(("top", 2),))


if __name__ == "__main__":
    unittest.main()
