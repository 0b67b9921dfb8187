"""What each part must send: point [8]."""

import itertools
import unittest

from partpicks import errors, hits, parted, send, words
from partpicks.errors import NoKind, NoName, NoNumber, NoParts
from tests.helper import (CAPS, FAR, HITS, LONG_WORDS, MANY, ODD, STEPS, TIES, WIDE, Case, all_parts, less, picks,
                          sends, small_hits, small_words, those, together, words_of)

EARLY, LATE = (("top", 2), ("each", 0, 1)), (("each", 0, 1), ("top", 2))
BOTH = (("floor", 3), ("each", 0, 1), ("each", 1, 1))
PARTS = (("a", "b"), ("c",))
TWO = (("w", 9, ("s", "p")), ("x", 5, ("s", "q")), ("z", 3, ("t", "q")))
WORDS = small_words(CAPS, 3) + small_words(STEPS, 2) + list(LONG_WORDS)
# What is sent is less than all steps leave more often where labels cross.
CROSSED = small_hits("abc", (0, 1), (("s", "p"), ("s", "q"), ("t", "q")))
CROSSED_WORDS = [EARLY, LATE, BOTH[1:], (("near", 0),) + BOTH[:0:-1], (("floor", 1), ("top", 2), ("each", 1, 1)),
                 (("each", 0, 1), ("top", 2), ("each", 1, 1)), (("top", 3), ("each", 1, 2), ("each", 0, 1)),
                 (("top", 2), ("each", 1, 1), ("near", 0), ("each", 0, 1))]
WRONG_PARTS = ((), ((),), (("a", "b"),), (("a", "b"), ("b", "c")), (("a", "b", "c"), ("a",)), (("q",), ()))


def oracle_wrong_by(some, parts, word, number):
    """The pair of sets by the words of the document."""
    right = picks(some, word)
    got = picks(those(some, together(sends(some, parts, words.reduced(word)[:number]))), word)
    return (less(right, got), less(got, right))


def oracle_needed(some, parts, word):
    """The set of those without which it goes wrong."""
    names = together(sends(some, parts, send.send_word(word)))
    return tuple(name for name in names if picks(those(some, less(names, (name,))), word) != picks(some, word))


class ExampleTest(Case):

    def test_example(self):
        self.assertEqual(self.follows_example("send.txt", words_of(send, errors)), 4)


class EnoughTest(Case):

    def test_ordinary_ones(self):
        for word, most, left in (
            ((), 0, ()), (EARLY, 1, EARLY[:1]), (LATE, 2, LATE), (BOTH, 2, BOTH[:2]), ((("top", 1),), 1, (("top", 1),)),
            ((("near", 3),), 1, (("near", 3),)), ((("near", 3), ("floor", 1)), 2, (("floor", 1), ("near", 3))),
            ((("near", 3), ("top", 1), ("each", 0, 2)), 1, (("top", 1),)),
            ((("top", 4), ("each", 0, 2), ("near", 1), ("top", 2)), 2, (("near", 1), ("top", 2))),
            ((("each", 1, 1), ("top", 3), ("each", 0, 2)), 2, (("each", 1, 1), ("top", 3))),
            ((("each", 1, 1), ("each", 0, 2), ("top", 3)), 1, (("each", 1, 1),)),
            ((("top", 5), ("each", 0, 5)), 1, (("top", 5),)), ((("each", 2, FAR),), 1, (("each", 2, FAR),)),
            (LONG_WORDS[0], 4, LONG_WORDS[0][:4]), (LONG_WORDS[1], 3, (("floor", FAR), ("near", 2), ("top", 4))),
            (LONG_WORDS[13], 3, (("floor", -7), ("near", 4), ("top", 5))),
        ):
            self.gives(most, send.enough, word=word)
            self.gives(left, send.send_word, word=word)
            for number in range(len(words.reduced(word)) + 1):
                self.gives(number <= most, send.is_enough, word=word, number=number)

    def test_all_small_words(self):
        for word in WORDS:
            steps = words.reduced(word)
            good = [number for number in range(len(steps) + 1) if parted.may_be_parted(steps[:number])]
            self.assertEqual(good, list(range(len(good))), word)
            self.assertEqual([send.is_enough(word, number) for number in range(len(steps) + 1)],
                             [number in good for number in range(len(steps) + 1)], word)
            self.assertEqual(send.enough(word), good[-1], word)
            self.assertEqual(send.send_word(word), steps[:good[-1]], word)

    def test_nothing_goes_wrong_if_it_is_enough(self):
        rows = CROSSED[::9] + [row for row in small_hits("abcd", (0,), (("s", "p"), ("t", "p"), ("s", "q")))][::5]
        for some, word in itertools.product(rows, CROSSED_WORDS + small_words(STEPS[3:], 2)):
            for number in range(send.enough(word) + 1):
                for parts in all_parts(some, 2):
                    self.assertEqual(send.wrong_by(some, parts, word, number), ((), ()), (some, parts, word, number))

    def test_most_sent(self):
        for word, most in (
            ((), None), (EARLY, 2), (LATE, 2), (BOTH, None), ((("top", 1), ("near", 0)), 1), ((("near", 0),), None),
            ((("floor", 5), ("near", 2), ("top", 4)), 4), ((("each", 0, 1),), None), ((("top", FAR),), FAR),
            ((("each", 0, 1), ("each", 1, 1), ("top", 2)), None), ((("each", 0, 2), ("top", 3), ("each", 1, 1)), 3),
            ((("top", 5), ("top", 4), ("each", 0, 1), ("top", 3)), 4), ((("each", 0, 3), ("top", 3)), 3),
            ((("each", 2, 4), ("top", 5), ("floor", 1)), 5), (LONG_WORDS[0], 5), (LONG_WORDS[6], None),
        ):
            self.gives(most, send.most_sent, word=word)

    def test_so_many_are_sent_at_the_most(self):
        unlike = tuple((name, 0, (name, name, name)) for name in "abcdef")
        for word in WORDS:
            names, most = picks(unlike, send.send_word(word)), send.most_sent(word)
            if ("floor", 1) not in word and words.floor_of(word) in (None, -5, -7, -FAR):
                self.assertEqual(len(names), 6 if most is None else min(most, 6), word)


class SentTest(Case):

    def test_ordinary_ones(self):
        for some, parts, word, sets in (
            (HITS, PARTS, EARLY, [("a", "b"), ("c",)]), (HITS, (("a", "b", "c"),), EARLY, [("a", "b")]),
            (HITS, (("c",), (), ("a", "b")), LATE, [("c",), (), ("a",)]),
            (HITS, (("b",), ("a", "c"), ()), (), [("b",), ("a", "c"), ()]),
            (TWO, (("w", "z"), ("x",)), BOTH, [("w", "z"), ("x",)]),
            (TWO, (("w", "x"), ("z",)), BOTH, [("w",), ("z",)]),
            (TIES, (("m", "n", "q"), ("o", "p")), (("near", 2), ("each", 1, 1), ("each", 0, 1)), [("n",), ("p",)]),
            (WIDE, (("far",), ("low",)), (("floor", 1 - FAR), ("top", 1)), [("far",), ()]),
            ((), ((),), EARLY, [()]), ((), ((), ()), BOTH, [(), ()]),
        ):
            self.gives(sets, send.sent, hits=some, parts=parts, word=word)
            self.gives(sum(map(len, sets)), send.how_many_sent, hits=some, parts=parts, word=word)

    def test_all_small_hits(self):
        for some, word in itertools.product(CROSSED[::7], CROSSED_WORDS):
            for parts in all_parts(some, 2):
                sets = sends(some, parts, send.send_word(word))
                self.assertEqual(send.sent(some, parts, word), sets, (some, parts, word))
                self.assertEqual(send.how_many_sent(some, parts, word), sum(map(len, sets)), (some, parts, word))

    def test_twelve_hits_in_six_parts(self):
        some = tuple((name, at, ("st"[at % 2],)) for at, name in enumerate("abcdefghijkl"))
        parts = (("a", "b", "c", "d", "e"), ("f", "h"), (), ("g", "i", "k"), ("j",), ("l",))
        self.gives([("c", "d", "e"), ("f", "h"), (), ("g", "i", "k"), ("j",), ("l",)], send.sent, hits=some,
                   parts=parts, word=(("top", 3), ("each", 0, 1)))
        self.gives(10, send.how_many_sent, hits=some, parts=parts, word=(("top", 3), ("each", 0, 1)))
        self.gives(("k", "l"), send.needed, hits=some, parts=parts, word=(("top", 3), ("each", 0, 1), ("top", 2)))


class NeededTest(Case):

    def test_ordinary_ones(self):
        for some, parts, word, names in (
            (HITS, PARTS, EARLY, ("a", "b")), (HITS, PARTS, LATE, ("a", "c")),
            (HITS, (("a", "c"), ("b",)), (), ("a", "b", "c")),
            (HITS, (("a", "c"), ("b",)), (("near", 1),), ("a", "b")), (HITS, PARTS, (("floor", 11),), ()),
            (TWO, (("w",), ("x", "z")), BOTH, ("w", "z")), (TWO, (("w", "x"), ("z",)), BOTH, ("w", "z")),
            (TIES, (("m", "n", "q"), ("o", "p")), (("top", 1),), ("n",)), ((), ((), ()), BOTH, ()),
        ):
            self.gives(names, send.needed, hits=some, parts=parts, word=word)

    def test_all_small_hits(self):
        for some, word in itertools.product(CROSSED[::7], CROSSED_WORDS):
            for parts in all_parts(some, 2):
                names = oracle_needed(some, parts, word)
                self.assertEqual(send.needed(some, parts, word), names, (some, parts, word))


class PickedOfTest(Case):

    def test_ordinary_ones(self):
        for sets, word, names in (
            ((("a",), ("c",)), EARLY, ("a", "c")), ((("a", "b"), ("b", "c")), EARLY, ("a",)),
            ((("b", "c"),), LATE, ("b", "c")),
            ((("b", "c"), ("b", "c"), ("c",)), (("top", 1),), ("b",)), ((), EARLY, ()), (((), ()), EARLY, ()),
            (((), ("c",), ("b",)), (), ("b", "c")), ((("a", "b", "c"), ("a",)), (("near", 1),), ("a", "b")),
        ):
            self.gives(names, send.picked_of, hits=HITS, sets=sets, word=word)
        self.gives((), send.picked_of, hits=(), sets=(), word=BOTH)
        self.gives((), send.picked_of, hits=(), sets=((), ()), word=BOTH)

    def test_all_sets(self):
        some = TIES[:4]
        sets = [tuple(names) for size in range(4) for names in itertools.combinations("mnop", size)]
        for one, other in itertools.product(sets, repeat=2):
            for word in (EARLY, BOTH, (("near", 2), ("top", 3))):
                names = picks(those(some, one + other), word)
                self.assertEqual(send.picked_of(some, (one, other), word), names, (one, other, word))

    def test_no_name_and_then_no_kind(self):
        for word in (EARLY, BOTH):
            for sets, name in (((("q",),), "q"), ((("a", "c"), (), ("b", "d", "e")), "d"), ((("z",), ("d",)), "z"),
                               ((("a", "aa"), ("a", "d")), "aa")):
                self.fails(NoName, {"name": name}, send.picked_of, hits=HITS, sets=sets, word=word)
        self.fails(NoName, {"name": "a"}, send.picked_of, hits=(), sets=((), ("a",)), word=BOTH)
        # The kinds of all hits count, also if there are none in the sets.
        for sets in ((("a", "b"), ("c",)), (("a",),), (), ((), ())):
            self.fails(NoKind, {"kind": 1}, send.picked_of, hits=HITS, sets=sets, word=BOTH)
            self.fails(NoKind, {"kind": 2}, send.picked_of, hits=HITS, sets=sets, word=(("each", 2, 1),) + BOTH)


class WrongByTest(Case):

    def test_ordinary_ones(self):
        for some, parts, word, number, pair in (
            (HITS, PARTS, EARLY, 0, ((), ())), (HITS, PARTS, EARLY, 1, ((), ())), (HITS, PARTS, EARLY, 2, ((), ("c",))),
            (HITS, PARTS, LATE, 2, ((), ())), (TWO, (("w",), ("x", "z")), BOTH, 3, (("z",), ())),
            (TWO, (("w",), ("x", "z")), BOTH, 2, ((), ())), (TWO, (("w", "x"), ("z",)), BOTH, 3, ((), ())),
            ((), ((), ()), BOTH, 3, ((), ())), ((), ((),), (), 0, ((), ())),
            (TWO, (("x", "z"), (), ("w",)), (("each", 0, 1), ("near", 5), ("each", 1, 1)), 3, ((), ())),
            (TWO, (("x", "z"), (), ("w",)), (("each", 0, 1), ("near", 6), ("each", 1, 1)), 3, (("z",), ())),
        ):
            self.gives(pair, send.wrong_by, hits=some, parts=parts, word=word, number=number)

    def test_all_small_hits(self):
        for some, word in itertools.product(CROSSED[::7], CROSSED_WORDS):
            for parts, number in itertools.product(all_parts(some, 2), range(len(words.reduced(word)) + 1)):
                pair = oracle_wrong_by(some, parts, word, number)
                self.assertEqual(send.wrong_by(some, parts, word, number), pair, (some, parts, word, number))
                judged = send.is_send_apart(word, number, (some, parts))
                self.assertIs(judged, pair != ((), ()), (some, parts, word, number))


class ApartTest(Case):

    def is_apart(self, word, number, paper):
        """The paper is one by the words of the document."""
        self.assertIs(type(paper), tuple, word)
        some, parts = paper
        self.assertTrue(hits.is_hits(some) and hits.is_parts(some, parts), (word, paper))
        self.assertTrue(some and hits.kinds(some) >= words.kinds_needed(word), (word, paper))
        self.assertNotEqual(oracle_wrong_by(some, parts, word, number), ((), ()), (word, number, paper))
        self.assertTrue(send.is_send_apart(word, number, paper), (word, number, paper))

    def test_all_small_words(self):
        for word in WORDS:
            steps = words.reduced(word)
            for number in range(len(steps) + 1):
                paper = send.send_apart(word, number)
                if parted.may_be_parted(steps[:number]):
                    self.assertIsNone(paper, (word, number))
                else:
                    self.is_apart(word, number, paper)

    def test_numbers_up_to_five(self):
        for one, other, third in itertools.product((1, 3, 4, 5), repeat=3):
            for word in (
                (("each", 1, one), ("each", 0, other), ("each", 2, third)),
                (("each", 2, one), ("each", 0, other), ("top", third), ("each", 1, one)),
                (("top", one), ("each", 0, other), ("top", third), ("each", 2, other)),
                (("each", 0, one), ("top", other), ("each", 1, third), ("top", 5), ("each", 2, one), ("top", third)),
            ):
                for number in range(send.enough(word) + 1, len(words.reduced(word)) + 1):
                    self.is_apart(word, number, send.send_apart(word, number))

    def test_the_same_paper_however_it_is_asked_for(self):
        for word in (EARLY, BOTH) + LONG_WORDS[:3]:
            for number in range(send.enough(word) + 1, len(words.reduced(word)) + 1):
                self.is_apart(word, number, self.told(send.send_apart, word=word, number=number))
            self.gives(None, send.send_apart, word=word, number=send.enough(word))
            self.gives(None, send.send_apart, word=word, number=0)

    def test_is_send_apart(self):
        wide = tuple((name, score, labels + ("m",)) for name, score, labels in HITS)
        right = (HITS, PARTS)
        wrong = [
            *ODD, (), (HITS,), PARTS, right + ((),), list(right), (list(HITS), PARTS), (HITS, list(PARTS)), (right,),
            (HITS, (("a", "b"), ["c"])), (HITS, (("a", "b"), ("b", "c"))), (HITS, (("a", "b"),)), (HITS, ()),
            (HITS, (("b", "a"), ("c",))), (HITS, None), (None, PARTS), (HITS[::-1], PARTS), ((), ((),)), ((), ((), ())),
            (HITS, (("a", "b", "c"),)), (HITS, (("a",), ("b", "c"))), (PARTS, HITS), ((), ()),
            (tuple(list(hit) for hit in HITS), PARTS), (HITS, (("a", "b"), ("c", "d"))),
        ]
        self.judges(send.is_send_apart, [right, (wide, PARTS), (HITS, ((), ("c",)) + ((),) * 8 + (("a", "b"),))], wrong,
                    word=EARLY, number=2)
        self.judges(send.is_send_apart, [], [right, (wide, PARTS), *wrong], word=EARLY, number=1)
        self.judges(send.is_send_apart, [], [right, *ODD], word=LATE, number=2)
        self.judges(send.is_send_apart, [(wide, PARTS)], [right], word=EARLY + (("each", 1, 2),), number=2)
        self.judges(send.is_send_apart, [], [right, (wide, PARTS)], word=EARLY + (("each", 2, 2),), number=2)

    def test_however_many_hits(self):
        names = tuple(hit[0] for hit in MANY[6:])
        some = tuple((name, 30 - at, ("s" if at < 19 else "t",)) for at, name in enumerate(names))
        self.judges(send.is_send_apart, [(some, (names[:-1], names[-1:]))], [(some, (names, ())), (some, ((), names))],
                    word=(("top", 19), ("each", 0, 1)), number=2)


class ErrorsTest(Case):

    def test_no_number(self):
        for word in ((), EARLY, LATE, BOTH, (("top", 2), ("top", 2)), (("top", 1), ("near", 3))):
            for number in (len(words.reduced(word)) + 1, -1, FAR, -FAR):
                told = {"number": number}
                self.fails(NoNumber, told, send.is_enough, word=word, number=number)
                self.fails(NoNumber, told, send.send_apart, word=word, number=number)
                for thing in (None, (), (HITS, PARTS), 7):
                    self.fails(NoNumber, told, send.is_send_apart, word=word, number=number, thing=thing)
                for parts in WRONG_PARTS + (PARTS,):
                    self.fails(NoNumber, told, send.wrong_by, hits=HITS, parts=parts, word=word, number=number)

    def test_no_parts(self):
        for parts, word in itertools.product(WRONG_PARTS, (EARLY, BOTH)):
            for function in (send.sent, send.how_many_sent, send.needed):
                self.fails(NoParts, {}, function, hits=HITS, parts=parts, word=word)
            for number in (0, 2):
                self.fails(NoParts, {}, send.wrong_by, hits=HITS, parts=parts, word=word, number=number)
        for function in (send.sent, send.how_many_sent, send.needed):
            self.fails(NoParts, {}, function, hits=(), parts=(), word=())
            self.fails(NoParts, {}, function, hits=(), parts=(("a",),), word=())

    def test_no_kind_is_told_by_the_whole_word(self):
        # A step that the reduced word has not, or that is not sent, counts, too.
        for word, kind in ((BOTH, 1), (EARLY + (("each", 2, 1),), 2), ((("top", 1), ("each", 1, 5), ("each", 2, 5)), 1),
                           ((("each", 2, 3), ("each", 1, 3), ("top", 1)), 2)):
            for parts in (PARTS, ((), ("a", "b", "c"))):
                for function in (send.sent, send.how_many_sent, send.needed):
                    self.fails(NoKind, {"kind": kind}, function, hits=HITS, parts=parts, word=word)
                for number in (0, len(words.reduced(word))):
                    self.fails(NoKind, {"kind": kind}, send.wrong_by, hits=HITS, parts=parts, word=word, number=number)


if __name__ == "__main__":
    unittest.main()
