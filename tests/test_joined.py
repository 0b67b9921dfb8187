"""Several words joined: point [10]."""

import itertools
import unittest

from partpicks import beside, errors, hits, joined, parted, words
from partpicks.errors import NoKind, NoPaper, NoParts
from tests.helper import (FAR, HITS, LONG_WORDS, MANY, ODD, STEPS, TIES, WIDE, Case, all_parts, less, picks, small_hits,
                          small_words, those, together, words_of)

EARLY, LATE = (("top", 2), ("each", 0, 1)), (("each", 0, 1), ("top", 2))
ONE, OTHER = (("each", 0, 1),), (("each", 1, 1),)
TWO = (("w", 9, ("s", "p")), ("x", 5, ("s", "q")), ("z", 3, ("t", "q")))
PARTS = (("w", "x"), ("z",))
WAYS = ("any", "all")
WRONG_PARTS = ((), ((),), (("w", "x"),), (("w", "x"), ("x", "z")), (("w", "x", "z"), ("w",)), (("q",), ()))
NUMBERS = (1, 2, 3)
AHEAD = [(), (("floor", 1),), (("near", 0),), (("near", 2),), (("floor", 0), ("near", 1)), (("floor", 2), ("near", 0))]


def parted_caps(kinds):
    """The reduced words, without floors and nears, that may be parted, with eachs of these kinds."""
    caps = [("top", number) for number in NUMBERS] + [("each", kind, number) for kind in kinds for number in NUMBERS]
    return [word for word in small_words(caps, 2) if words.is_reduced(word) and parted.may_be_parted(word)]


CAPS_OF_TWO, CAPS_OF_THREE = parted_caps((0, 1)), parted_caps((0, 1, 2))
# Words of up to eight steps that may be parted, with steps that do nothing.
UNREDUCED = (
    (("top", 3), ("each", 2, 3), ("near", 5), ("floor", 1), ("floor", 0), ("near", 6), ("top", 3), ("each", 1, 3)),
    (("each", 0, 3), ("floor", 2), ("top", 2), ("each", 1, 2), ("near", FAR)),
    (("near", 9), ("each", 2, 1), ("top", 1)),
    (("each", 0, 2), ("floor", -2), ("each", 1, 3), ("near", 2), ("top", 3), ("floor", 1), ("near", 9), ("top", 1)),
    (("near", 3), ("each", 1, 2), ("near", 7), ("floor", -FAR)), (("each", 2, 2), ("top", 3), ("top", 3), ("floor", 5)),
)


def oracle_joined(some, rows, way):
    """The set that is joined by the words of the document."""
    sets = [set(picks(some, word)) for word in rows]
    return tuple(sorted(set.intersection(*sets) if way == "all" else set.union(*sets)))


def oracle_parted(some, parts, rows, way):
    """The set that is joined parted by the words of the document."""
    left = together([oracle_joined(those(some, part), rows, way) for part in parts])
    return oracle_joined(those(some, left), rows, way)


def labelled(names, labels):
    """All hits with these names, the first one the best, and with such labels."""
    for row in itertools.product(labels, repeat=len(names)):
        yield tuple((name, -at, label) for at, (name, label) in enumerate(zip(names, row)))


class ExampleTest(Case):

    def test_example(self):
        self.assertEqual(self.follows_example("joined.txt", words_of(joined, errors)), 6)


class JoinedTest(Case):

    def test_ordinary_ones(self):
        for some, rows, some_one, each_one, pairs in (
            (TWO, (ONE, OTHER), ("w", "x", "z"), ("w",), (("w", 2), ("x", 1), ("z", 1))),
            (TWO, (ONE,), ("w", "z"), ("w", "z"), (("w", 1), ("x", 0), ("z", 1))),
            (TWO, ((),), ("w", "x", "z"), ("w", "x", "z"), (("w", 1), ("x", 1), ("z", 1))),
            (TWO, (ONE, ONE, OTHER, ONE), ("w", "x", "z"), ("w",), (("w", 4), ("x", 1), ("z", 3))),
            (HITS, (EARLY, LATE), ("a", "c"), ("a",), (("a", 2), ("b", 0), ("c", 1))),
            (HITS, ((("floor", 11),), (("near", 0),)), ("a",), (), (("a", 1), ("b", 0), ("c", 0))),
            (TIES, ((("top", 2),), (("each", 1, 1),), (("floor", 6),)), ("n", "p"), ("n", "p"),
             (("m", 0), ("n", 3), ("o", 0), ("p", 3), ("q", 0))),
            (WIDE, ((("near", 2 * FAR - 1),), (("floor", -FAR), ("each", 2, 1))), ("far", "low"), ("far",),
             (("far", 2), ("low", 1))),
            ((), (ONE, OTHER, EARLY), (), (), ()), ((), ((("each", 2, 1),),), (), (), ()),
        ):
            self.gives(some_one, joined.joined, hits=some, words=rows, way="any")
            self.gives(each_one, joined.joined, hits=some, words=rows, way="all")
            self.gives(pairs, joined.votes, hits=some, words=rows)

    def test_all_small_hits(self):
        rows = small_words(STEPS, 2)
        for some in small_hits("abc", (0, 1), (("s", "p"), ("s", "q"), ("t", "q")))[::11]:
            for one, other, third in zip(rows * 3, rows[5:] + rows[::-1] + rows, rows[17:] + rows[::2] + rows[::-1]):
                for joint in ((one,), (one, other), (one, other, third), (third, one, other, one)):
                    for way in WAYS:
                        names = oracle_joined(some, joint, way)
                        self.assertEqual(joined.joined(some, joint, way), names, (some, joint, way))
                    pairs = tuple((hit[0], sum(hit[0] in picks(some, word) for word in joint)) for hit in some)
                    self.assertEqual(joined.votes(some, joint), pairs, (some, joint))

    def test_no_kind_for_the_first_word(self):
        second, third = (("top", 1), ("each", 1, 1)), (("each", 2, 1), ("each", 1, 1))
        for rows, kind in (((second, third), 1), ((third, second), 2), ((ONE, (), third, second), 2), ((second,), 1)):
            for way in WAYS:
                self.fails(NoKind, {"kind": kind}, joined.joined, hits=HITS, words=rows, way=way)
            self.fails(NoKind, {"kind": kind}, joined.votes, hits=HITS, words=rows)
        self.fails(NoKind, {"kind": 2}, joined.votes, hits=TIES, words=(second, third))


class JoinedPartedTest(Case):

    def is_told(self, some, parts, rows, way, names):
        """What is joined parted, lost and come in, however it is asked for."""
        right = oracle_joined(some, rows, way)
        self.gives(names, joined.joined_parted, hits=some, parts=parts, words=rows, way=way)
        self.gives(less(right, names), joined.joined_lost, hits=some, parts=parts, words=rows, way=way)
        self.gives(less(names, right), joined.joined_come, hits=some, parts=parts, words=rows, way=way)

    def test_ordinary_ones(self):
        for some, parts, rows, way, names in (
            (TWO, PARTS, (ONE, OTHER), "all", ("w", "z")), (TWO, PARTS, (ONE, OTHER), "any", ("w", "x", "z")),
            (TWO, (("w",), (), ("x", "z")), (ONE, OTHER), "all", ("w",)), (TWO, PARTS, ((),), "all", ("w", "x", "z")),
            (TWO, (("w", "x", "z"),), (ONE, OTHER), "all", ("w",)), (TWO, PARTS, (ONE,), "any", ("w", "z")),
            (HITS, (("a", "b"), ("c",)), (EARLY,), "all", ("a", "c")),
            (HITS, (("a", "b"), ("c",)), (EARLY,), "any", ("a", "c")),
            (TWO, (("x", "z"), ("w",)), (ONE + OTHER, ONE, (("top", 3),)), "all", ("w",)),
            (TWO, (("x", "z"), ("w",)), (ONE + OTHER, (("top", 1),)), "any", ("w",)),
            (WIDE, (("low",), ("far",)), ((("near", 2 * FAR),), (("floor", 1 - FAR),)), "any", ("far", "low")),
            ((), ((),), (ONE, OTHER), "all", ()), ((), ((), (), ()), ((("each", 2, 1),),), "any", ()),
        ):
            self.is_told(some, parts, rows, way, names)

    def test_four_words_of_twelve_hits_in_six_parts(self):
        some = tuple((name, score % 5, (label,)) for score, (name, label) in enumerate(zip("abcdefghijkl", "sstu" * 3)))
        parts = (("a", "l"), ("b", "k"), ("c", "j"), ("d", "i"), ("e", "h"), ("f", "g"))
        rows = ((("top", 5),), (("each", 0, 2),), (("near", 3), ("top", 9)), (("top", 7), ("each", 0, 2)))
        for way in WAYS:
            self.is_told(some, parts, rows, way, oracle_parted(some, parts, rows, way))

    def test_all_small_hits_in_all_parts(self):
        rows = small_words(STEPS, 2)
        for some in [()] + small_hits("abc", (0, 1), (("s", "p"), ("s", "q"), ("t", "q")))[::29]:
            for parts, (one, other), way in itertools.product(list(all_parts(some, 3))[::2],
                                                              list(zip(rows, rows[7:] + rows[:7])), WAYS):
                right, names = oracle_joined(some, (one, other), way), oracle_parted(some, parts, (one, other), way)
                told = (some, parts, (one, other), way)
                self.assertEqual(joined.joined_parted(*told), names, told)
                self.assertEqual(joined.joined_lost(*told), less(right, names), told)
                self.assertEqual(joined.joined_come(*told), less(names, right), told)

    def test_no_parts_and_then_no_kind(self):
        second, third = (("top", 1), ("each", 2, 1)), (("each", 2, 1), ("each", 1, 1))
        for function, way in itertools.product((joined.joined_parted, joined.joined_lost, joined.joined_come), WAYS):
            for parts, rows in itertools.product(WRONG_PARTS, ((ONE, OTHER), (second,), ((),))):
                self.fails(NoParts, {}, function, hits=TWO, parts=parts, words=rows, way=way)
            self.fails(NoParts, {}, function, hits=(), parts=(), words=(ONE,), way=way)
            self.fails(NoParts, {}, function, hits=(), parts=(("w",),), words=(ONE,), way=way)
            for rows, kind in (((second, third), 2), ((ONE, (), second), 2)):
                told = {"hits": TWO, "parts": ((), ("w", "x", "z")), "words": rows, "way": way}
                self.fails(NoKind, {"kind": kind}, function, **told)
            for rows, kind in (((OTHER, second), 1), ((third, OTHER), 2), ((ONE, OTHER + second[1:]), 1)):
                told = {"hits": HITS, "parts": (("a",), ("b", "c")), "words": rows, "way": way}
                self.fails(NoKind, {"kind": kind}, function, **told)


class MayBeJoinedTest(Case):

    def test_ordinary_ones(self):
        for one, other, answer, word in (
            ((), (), True, ()), (ONE, ONE, True, ONE), (ONE, (), True, ONE), (ONE, OTHER, False, None),
            ((("top", 2),), (("top", 5),), True, (("top", 2),)),
            ((("top", 2),), (("each", 1, 2),), True, (("top", 2),)),
            ((("top", 3),), (("each", 1, 2),), False, None), (LATE, ONE, True, LATE), (LATE, OTHER, False, None),
            ((("top", 2),), (("each", 1, 2), ("floor", 4)), True, (("floor", 4), ("top", 2))), (LATE, (), True, LATE),
            ((("near", 5), ("top", 1)), (), True, (("top", 1),)), ((("near", 5),), (("top", 1),), True, (("top", 1),)),
            ((("near", 5), ("floor", 1)), (("near", 4), ("floor", 2)), True, (("floor", 2), ("near", 4))),
            ((("near", 4), ("floor", 1)), (("near", 5), ("floor", 2)), True, (("floor", 2), ("near", 4))),
            ((("floor", -FAR),) + ONE, (("near", FAR),) + LATE, True, (("floor", -FAR), ("near", FAR)) + LATE),
            ((("each", 0, 2), ("top", 3)), LATE, True, LATE), (LATE, (("top", 2),), False, None),
            ((("each", 0, 2), ("top", 3)), ONE, False, None),
            ((("each", 0, 1), ("top", 3)), (("each", 0, 2), ("top", 4)), False, None),
            ((("each", 0, 1), ("top", 3)), (("each", 0, 2), ("top", 5)), True, (("each", 0, 1), ("top", 3))),
            ((("top", 1), ("near", 0)), (("floor", 3), ("each", 2, 1)), True, (("floor", 3), ("top", 1))),
            (UNREDUCED[0], (("each", 1, 3), ("near", 4)), True, (("floor", 1), ("near", 4), ("top", 3))),
        ):
            for first, second in ((one, other), (other, one)):
                self.gives(True, joined.may_be_joined, one=first, other=second, way="any")
                self.gives(answer, joined.may_be_joined, one=first, other=second, way="all")
                self.gives(word, joined.both_word, one=first, other=second)

    def test_exactly_if_the_caps_of_one_are_within_those_of_the_other_one(self):
        for one, other in itertools.product(CAPS_OF_THREE + list(UNREDUCED), repeat=2):
            caps = [tuple(step for step in words.reduced(word) if step[0] in ("top", "each")) for word in (one, other)]
            answer = beside.is_within(*caps) or beside.is_within(*caps[::-1])
            self.assertIs(joined.may_be_joined(one, other, "all"), answer, (one, other))
            self.assertIs(joined.both_word(one, other) is not None, answer, (one, other))
            if answer:
                self.assertTrue(words.is_reduced(joined.both_word(one, other)), (one, other))

    def test_all_parts_of_small_hits_are_right_if_they_may_be_joined(self):
        rows = list(labelled("abcde", (("s", "p"), ("s", "q"), ("t", "q"))))[::9]
        for one, other in itertools.combinations_with_replacement(CAPS_OF_TWO, 2):
            may = joined.may_be_joined(one, other, "all")
            for some in rows[CAPS_OF_TWO.index(one) % 3::3]:
                for parts in list(all_parts(some, 2))[1:16:5]:
                    for way in WAYS if may else WAYS[:1]:
                        told = (some, parts, (one, other), way)
                        self.assertEqual(oracle_joined(some, (one, other), way), oracle_parted(*told), told)

    def test_joined_by_any_what_is_joined_parted_is_what_is_joined(self):
        rows = small_hits("abc", (0, 1, 2), (("s",), ("t",)))[::5]
        some_words = [word for word in small_words((("floor", 1), ("near", 0), ("near", 1), ("top", 2), ("each", 0, 1)),
                                                   3) if parted.may_be_parted(word)][::2]
        for some, (one, other) in itertools.product(rows, list(zip(some_words, some_words[3:] + some_words[:3]))):
            for parts in all_parts(some, 2):
                told = (some, parts, (one, other), "any")
                self.assertEqual(joined.joined(some, (one, other), "any"), joined.joined_parted(*told), told)

    def test_both_word_picks_what_both_pick(self):
        rows = small_hits("abc", (-1, 0, 2), (("s", "p"), ("s", "q"), ("t", "q")))[::7]
        some_words = [ahead + caps for ahead in AHEAD for caps in CAPS_OF_TWO[::3] + [(("top", 1),)]]
        for one, other in list(itertools.product(some_words, repeat=2))[::3]:
            word = joined.both_word(one, other)
            if word is not None:
                for some in rows[::4]:
                    both = oracle_joined(some, (one, other), "all")
                    self.assertEqual(picks(some, word), both, (one, other, some))


class PaperTest(Case):

    def is_paper(self, one, other, paper):
        """The paper is one by the words of the document."""
        self.assertIs(type(paper), tuple, (one, other, paper))
        some, parts = paper
        self.assertTrue(hits.is_hits(some) and hits.is_parts(some, parts), (one, other, paper))
        self.assertEqual(len(parts), 2, (one, other, paper))
        needed = max(words.kinds_needed(one), words.kinds_needed(other))
        self.assertGreaterEqual(hits.kinds(some), needed, (one, other, paper))
        right, told = oracle_joined(some, (one, other), "all"), oracle_parted(some, parts, (one, other), "all")
        self.assertNotEqual(right, told, (one, other, paper))
        self.assertTrue(joined.is_joined_paper(one, other, "all", paper), (one, other, paper))

    def has_its_paper(self, one, other):
        """There is a paper exactly if both may not be joined by all."""
        if joined.may_be_joined(one, other, "all"):
            with self.assertRaises(NoPaper, msg=(one, other)):
                joined.joined_paper(one, other)
        else:
            self.is_paper(one, other, joined.joined_paper(one, other))

    def test_all_caps(self):
        for one, other in itertools.product(CAPS_OF_THREE, repeat=2):
            self.has_its_paper(one, other)

    def test_floors_and_nears(self):
        rows = [ahead + caps for ahead in AHEAD for caps in CAPS_OF_TWO[::3] + [(("each", 2, 2), ("top", 3))]]
        for one, other in itertools.product(rows, repeat=2):
            self.has_its_paper(one, other)

    def test_words_that_are_not_reduced(self):
        for one, other in itertools.product(UNREDUCED, repeat=2):
            self.has_its_paper(one, other)

    def test_numbers_at_their_bounds(self):
        bars = ((), (("floor", FAR),), (("near", 0), ("floor", -FAR)), (("near", FAR),))
        for ahead, behind in itertools.product(bars, repeat=2):
            for one, other in ((ONE, OTHER), (LATE, (("each", 1, 3),)), ((("top", 3),), (("each", 2, 2),)),
                               ((("each", 2, 2),), (("each", 2, 3), ("top", 4)))):
                self.is_paper(ahead + one, behind + other, joined.joined_paper(ahead + one, behind + other))

    def test_numbers_beyond_three(self):
        for one, other in itertools.product((ONE, (("each", 0, 7), ("top", 20)), (("each", 0, 4),), (("top", 9),),
                                             (("each", 0, 5), ("top", 17)), (("each", 1, 6), ("top", 7))), repeat=2):
            self.has_its_paper(one, other)

    def test_the_same_paper_however_it_is_asked_for(self):
        for one, other in ((ONE, OTHER), (LATE, (("top", 2),)), (ONE, (("each", 0, 2), ("top", 3))),
                           ((("floor", 3), ("each", 0, 1), ("top", 3)), (("each", 0, 2), ("near", 1), ("top", 3)))):
            self.is_paper(one, other, self.told(joined.joined_paper, one=one, other=other))
            self.is_paper(other, one, self.told(joined.joined_paper, one=other, other=one))

    def test_no_paper(self):
        for one, other in (((), ()), (ONE, ONE), (LATE, ONE), (ONE, LATE), ((("top", 1),), OTHER), (OTHER, ()),
                           ((("near", 3), ("top", 3)), (("each", 2, 3), ("floor", 3)))):
            self.fails(NoPaper, {}, joined.joined_paper, one=one, other=other)


class IsPaperTest(Case):

    def test_right_and_wrong_ones(self):
        wide = tuple((name, score, labels + ("m",)) for name, score, labels in TWO)
        far = (("w", FAR ** 2, ("s", "p")), ("x", -FAR ** 2, ("s", "q")), ("z", -FAR ** 3, ("t", "q")))
        right = [(TWO, PARTS), (TWO, PARTS[::-1]), (wide, PARTS), (far, PARTS), (TWO, ((),) * 9 + PARTS[::-1])]
        wrong = [
            *ODD, (), (TWO,), PARTS, (TWO, PARTS, ()), [TWO, PARTS], (list(TWO), PARTS), (TWO, list(PARTS)),
            (PARTS, TWO), (TWO, (["w", "x"], ("z",))), (TWO, (("w", "x"), ["z"])), (TWO, (("w",), ("x", "z"))),
            (TWO, (("w", "x"),)),
            (TWO, (("w", "x", "z"),)), (TWO, (("x", "w"), ("z",))), (TWO, None), (None, PARTS), (TWO[::-1], PARTS),
            (HITS, (("a", "b"), ("c",))), ((), ((),)), ((), ()), ((), ((), ())), (TWO, ()), ((TWO, PARTS),),
            (tuple(list(hit) for hit in TWO), PARTS), (TWO, (("w", "x"), ("q", "z"))), (TWO, (("w",), ("x",), ("z",))),
            ((("w", True, ("s", "p")), ("x", False, ("s", "q")), ("z", -1, ("t", "q"))), PARTS),
        ]
        for one, other in ((ONE, OTHER), (OTHER, ONE)):
            self.judges(joined.is_joined_paper, right, wrong, one=one, other=other, way="all")
            self.judges(joined.is_joined_paper, [], right + wrong, one=one, other=other, way="any")
        self.judges(joined.is_joined_paper, [], right + wrong, one=ONE, other=ONE, way="all")

    def test_any_two_words(self):
        pair = (HITS, (("a", "b"), ("c",)))
        for way in WAYS:
            self.judges(joined.is_joined_paper, [pair], [(HITS, (("a",), ("b", "c")))], one=EARLY, other=EARLY, way=way)
        self.judges(joined.is_joined_paper, [], [pair], one=EARLY, other=(), way="any")
        self.judges(joined.is_joined_paper, [pair], [], one=EARLY, other=(), way="all")
        self.judges(joined.is_joined_paper, [], [pair], one=EARLY, other=LATE, way="any")

    def test_too_few_kinds(self):
        wide = tuple((name, score, labels + ("m",)) for name, score, labels in TWO)
        for one, other in ((ONE + (("each", 2, 9),), OTHER), (ONE, OTHER + (("each", 2, 9),))):
            self.judges(joined.is_joined_paper, [(wide, PARTS)], [(TWO, PARTS), ((), ((), ()))], one=one, other=other,
                        way="all")
        # A kind counts also if the reduced word needs it no more.
        self.judges(joined.is_joined_paper, [], [(HITS, (("a", "b"), ("c",)))], one=EARLY,
                    other=(("each", 1, 1), ("top", 1)), way="all")

    def test_however_many_hits_and_parts(self):
        names = tuple(hit[0] for hit in MANY)
        some = tuple((name, 30 - at, ("s" if at < 25 else "t",)) for at, name in enumerate(names))
        self.judges(joined.is_joined_paper, [(some, (names[:-1], names[-1:])), (some, (names[:-1], (), names[-1:]))],
                    [(some, (names,)), (some, tuple((name,) for name in names))],
                    one=(("top", 25),), other=(("each", 0, 1),), way="all")

    def test_all_small_hits_in_all_parts(self):
        pairs = ((ONE, OTHER), (LATE, OTHER), ((("top", 2),), ONE), (EARLY, (("near", 1),)), (EARLY, ONE + OTHER))
        for some in small_hits("abc", (0, 1), (("s", "p"), ("s", "q"), ("t", "q")))[::3]:
            for parts, (one, other), way in itertools.product(all_parts(some, 2), pairs, WAYS):
                answer = oracle_joined(some, (one, other), way) != oracle_parted(some, parts, (one, other), way)
                told = (one, other, way, (some, parts))
                self.assertIs(joined.is_joined_paper(*told), answer, told)

    def test_words_of_eight_steps(self):
        for one, other in zip(LONG_WORDS, LONG_WORDS[1:]):
            self.judges(joined.is_joined_paper, [], [(HITS, (("a", "b"), ("c",))), *ODD[:5]], one=one, other=other,
                        way="any")


if __name__ == "__main__":
    unittest.main()
