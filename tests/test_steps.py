"""Steps and words, and what they pick: point [5]."""

import itertools
import unittest

from partpicks import errors, hits, steps
from partpicks.errors import NoKind, NoName
from tests.helper import (FAR, HITS, MANY, ODD, STEPS, TIES, WIDE, Case, is_better, left_of, names_in, small_hits,
                          small_words, words_of)

EARLY, LATE = (("top", 2), ("each", 0, 1)), (("each", 0, 1), ("top", 2))
# All of one kind with up to three hits, and some of two kinds with four of them.
ONE_KIND = [row for many in range(4) for row in small_hits("abc"[:many], (0, 1, 3), (("s",), ("t",)))]
TWO_KINDS = small_hits("abcd", (0, 1), (("s", "p"), ("s", "q"), ("t", "q")))
WORDS = small_words(STEPS, 2)
LONG_WORDS = [
    (("each", 0, 1), ("each", 1, 1), ("top", 2)), (("top", 3), ("each", 1, 1), ("each", 0, 1)),
    (("each", 1, 2), ("near", 1), ("each", 0, 1), ("floor", 1)), (("top", 3), ("each", 0, 2), ("top", 2), ("near", 0)),
    (("each", 0, 2), ("top", 3), ("each", 1, 1), ("top", 1)), (("near", 1), ("floor", 1), ("top", 2), ("each", 1, 1)),
]


def words_with_one_kind():
    """The words that need no second kind."""
    return [word for word in WORDS if ("each", 1) not in [step[:2] for step in word]]


def small_cases():
    """Pairs of small hits and of words that they have the kinds for."""
    yield from itertools.product(ONE_KIND, words_with_one_kind())
    yield from itertools.product(TWO_KINDS, LONG_WORDS)


class ExampleTest(Case):

    def test_example(self):
        self.assertEqual(self.follows_example("steps.txt", words_of(steps, errors)), 5)


class IsStepTest(Case):

    def test_right_ones(self):
        self.judges(steps.is_step, [
            ("floor", 0), ("floor", -1), ("floor", FAR), ("floor", -FAR ** 3), ("near", 0), ("near", 1),
            ("near", FAR ** 2), ("each", 0, 1), ("each", 1, 1), ("each", 2, 1), ("each", 2, FAR ** 2), ("top", 1),
            ("top", 2), ("top", FAR ** 2),
        ], [])

    def test_wrong_numbers(self):
        self.judges(steps.is_step, [], [
            ("near", -1), ("near", -FAR), ("each", -1, 1), ("each", 3, 1), ("each", FAR, 1), ("each", 0, 0),
            ("each", 0, -1), ("each", 2, -FAR), ("top", 0), ("top", -1), ("top", -FAR),
        ])
        for wrong in (True, False, None, "1", "", (), (1,), [1], ("top", 1)):
            self.judges(steps.is_step, [], [
                ("floor", wrong), ("near", wrong), ("top", wrong), ("each", wrong, 1), ("each", 0, wrong),
            ])

    def test_wrong_forms(self):
        self.judges(steps.is_step, [], [
            *ODD, (), ("floor",), ("near",), ("top",), ("each",), ("each", 0), ("each", 0, 1, 1), ("floor", 1, 1),
            ("near", 1, 1), ("top", 1, 1), ("floor", ()), ["floor", 1], ["each", 0, 1], ("Floor", 1), ("tops", 1),
            ("", 1), ("top ", 1), (1, "top"), (None, 1), (("top",), 1), (["top"], 1), (("top", 1),), ("top", (1,)),
            (True, 1), (0, 0, 1), "top", ("each", "each", 1), ("floor", "near"), (1,), (1, 2), (1, 2, 3),
        ])


class IsWordTest(Case):

    def test_right_ones(self):
        self.judges(steps.is_word, [
            (), (("top", 1),), (("top", 2), ("top", 2)), (("floor", 1), ("floor", 1), ("near", 0), ("near", 0)),
            (("each", 0, 1), ("each", 1, 1), ("each", 2, 1)), (("each", 2, 5), ("top", 3), ("each", 0, 5)),
            (("top", 3),) * 20,
        ], [])

    def test_wrong_ones(self):
        self.judges(steps.is_word, [], [
            *ODD, ("top", 1), [("top", 1)], (["top", 1],), (("top", 1), ["top", 1]), (("top", 0),),
            (("top", 1), ("near", -1)), (("top", True),), (("top", 1), None), (("top", 1), ()), ((),), ("top",),
            (("each", 0, 1), ("each", 0, 1)), (("each", 1, 1), ("top", 3), ("each", 1, 2)),
            (("each", 2, 1), ("each", 0, 1), ("each", 1, 1), ("each", 2, 3)), (("each", 3, 1),), (("each", False, 1),),
            ((("top", 1),),), "top",
        ])

    def test_kinds_in(self):
        self.gives((), steps.kinds_in, word=())
        self.gives((), steps.kinds_in, word=(("top", 1), ("floor", 2), ("near", 1)))
        self.gives((2, 0), steps.kinds_in, word=(("floor", 1), ("each", 2, 1), ("top", 1), ("each", 0, 9)))


class PickingTest(Case):

    def test_single_steps(self):
        for word, names in (
            ((), ("m", "n", "o", "p", "q")), ((("floor", 5),), ("m", "n", "o", "p")), ((("floor", 6),), ("n", "p")),
            ((("floor", 7),), ("n", "p")), ((("floor", 8),), ()), ((("floor", -3),), ("m", "n", "o", "p", "q")),
            ((("near", 0),), ("n", "p")), ((("near", 1),), ("n", "p")), ((("near", 2),), ("m", "n", "o", "p")),
            ((("near", 9),), ("m", "n", "o", "p")), ((("near", 10),), ("m", "n", "o", "p", "q")),
            ((("each", 0, 1),), ("m", "n", "p")), ((("each", 0, 2),), ("m", "n", "o", "p", "q")),
            ((("each", 1, 1),), ("n", "p")), ((("each", 1, 2),), ("m", "n", "o", "p")),
            ((("top", 1),), ("n",)), ((("top", 3),), ("m", "n", "p")), ((("top", 5),), ("m", "n", "o", "p", "q")),
            ((("top", FAR),), ("m", "n", "o", "p", "q")), ((("each", 1, FAR),), ("m", "n", "o", "p", "q")),
        ):
            self.gives(names, steps.picked, hits=TIES, word=word)
        for many in range(1, 13):
            self.gives(tuple(hit[0] for hit in MANY[12 - many:12]), steps.picked, hits=MANY[:12],
                       word=(("top", many),))

    def test_numbers_at_their_bounds(self):
        self.gives(("far",), steps.picked, hits=WIDE, word=(("near", 2 * FAR - 1),))
        self.gives(("far", "low"), steps.picked, hits=WIDE, word=(("near", 2 * FAR),))
        self.gives(("far",), steps.picked, hits=WIDE, word=(("floor", FAR),))
        self.gives(("far",), steps.picked, hits=WIDE, word=(("floor", 1 - FAR),))
        self.gives(("far", "low"), steps.picked, hits=WIDE, word=(("floor", -FAR),))
        self.gives(("far",), steps.picked, hits=WIDE, word=(("each", 1, 1),))
        self.gives(("far", "low"), steps.picked, hits=WIDE, word=(("each", 0, 1), ("each", 2, 1)))

    def test_steps_stand_behind_one_another(self):
        self.gives(("a",), steps.picked, hits=HITS, word=EARLY)
        self.gives(("a", "c"), steps.picked, hits=HITS, word=LATE)
        self.gives(("n",), steps.picked, hits=TIES, word=(("top", 2), ("each", 0, 1), ("each", 1, 1), ("top", 1)))

    def test_twelve_hits_and_eight_steps(self):
        some = tuple((name, score, (label,)) for name, score, label in zip("abcdefghijkl", range(12), "stuvstuvstuv"))
        word = (("floor", 1), ("near", 9), ("top", 9), ("each", 0, 2), ("floor", 5), ("top", 6), ("near", 5),
                ("top", 5))
        left = [some[1:], some[2:], some[3:], some[4:], some[5:], some[6:], some[6:], some[7:]]
        self.gives([names_in(row) for row in left], steps.left_along, hits=some, word=word)
        self.gives(("l", "k", "j", "i", "h"), steps.page, hits=some, word=word)
        for place, name in enumerate("abcdef"):
            self.gives(place, steps.goes_at, hits=some, word=word, name=name)
        self.gives(7, steps.goes_at, hits=some, word=word, name="g")
        self.gives(("h", "l"), steps.barred_by, hits=some, word=word, name="d")
        self.gives(7, steps.score_needed, hits=some, word=word, name="a")

    def test_page(self):
        self.gives(("n", "p", "m", "o", "q"), steps.page, hits=TIES, word=())
        self.gives(("n", "p", "m"), steps.page, hits=TIES, word=(("each", 0, 1),))
        self.gives((), steps.page, hits=TIES, word=(("floor", 8),))
        self.gives((), steps.page, hits=(), word=LATE)

    def test_left_along(self):
        self.gives([], steps.left_along, hits=TIES, word=())
        self.gives([("a", "b"), ("a",)], steps.left_along, hits=HITS, word=EARLY)
        self.gives([("m", "n", "o", "p"), ("m", "n", "p"), ("n", "p"), ("n",)], steps.left_along, hits=TIES,
                   word=(("floor", 0), ("each", 0, 1), ("near", 1), ("top", 1)))

    def test_a_step_that_leaves_nobody(self):
        word = (("top", 2), ("floor", 8), ("near", 0), ("each", 0, 1), ("top", 1), ("floor", -FAR))
        self.gives([("n", "p"), (), (), (), (), ()], steps.left_along, hits=TIES, word=word)
        self.gives((), steps.picked, hits=TIES, word=word)
        self.gives("n", steps.best_left_out, hits=TIES, word=word)
        self.gives(1, steps.goes_at, hits=TIES, word=word, name="n")
        self.gives(0, steps.goes_at, hits=TIES, word=word, name="m")
        self.gives((), steps.barred_by, hits=TIES, word=word, name="n")
        self.gives(("n", "p"), steps.barred_by, hits=TIES, word=word, name="m")
        self.gives(8, steps.score_needed, hits=TIES, word=word, name="n")

    def test_best_left_out(self):
        self.gives(None, steps.best_left_out, hits=TIES, word=())
        self.gives(None, steps.best_left_out, hits=(), word=EARLY)
        self.gives("o", steps.best_left_out, hits=TIES, word=(("each", 0, 1),))
        self.gives("m", steps.best_left_out, hits=TIES, word=(("each", 1, 1),))
        self.gives("p", steps.best_left_out, hits=TIES, word=(("top", 1),))
        self.gives("q", steps.best_left_out, hits=TIES, word=(("near", 2),))

    def test_goes_at(self):
        word = (("floor", 0), ("each", 0, 1), ("near", 1), ("top", 1))
        for name, place in (("q", 0), ("o", 1), ("m", 2), ("p", 3), ("n", None)):
            self.gives(place, steps.goes_at, hits=TIES, word=word, name=name)
        self.gives(None, steps.goes_at, hits=TIES, word=(), name="q")

    def test_barred_by(self):
        for word, name, names in (
            ((("floor", 0),), "q", ()), ((("near", 1),), "m", ("n",)), ((("near", 1),), "p", ()),
            ((("each", 0, 1),), "q", ("n",)), ((("each", 0, 1),), "o", ("m",)), ((("each", 1, 2),), "q", ("m", "n")),
            ((("top", 2),), "q", ("n", "p")), ((("top", 3),), "o", ("m", "n", "p")), ((("top", 3),), "m", ()),
            ((("top", 3), ("each", 1, 1), ("near", 0)), "m", ("n",)),
            ((("top", 3), ("each", 1, 1)), "o", ("m", "n", "p")),
            ((("each", 1, 1), ("near", 0)), "p", ()), ((), "q", ()),
            ((("floor", 0), ("top", 4), ("top", 2)), "m", ("n", "p")),
        ):
            self.gives(names, steps.barred_by, hits=TIES, word=word, name=name)

    def test_a_near_bars_by_the_best_one_that_it_gets(self):
        some = (("a", 3, ("s",)), ("b", 9, ("s",)), ("c", 9, ("t",)), ("d", 9, ("s",)))
        self.gives(("b",), steps.barred_by, hits=some, word=(("near", 2),), name="a")
        self.gives(("b",), steps.barred_by, hits=some, word=(("top", 2), ("top", 1), ("near", 0)), name="c")

    def test_all_small_hits_are_left_as_the_document_says(self):
        for some, word in small_cases():
            left = left_of(some, word)
            ranked = hits.best_first(some)
            picks = names_in(left[-1])
            self.assertEqual(steps.picked(some, word), picks, (some, word))
            self.assertEqual(steps.left_along(some, word), [names_in(row) for row in left[1:]], (some, word))
            self.assertEqual(steps.page(some, word), tuple(name for name in ranked if name in picks), (some, word))
            out = [name for name in ranked if name not in picks]
            self.assertEqual(steps.best_left_out(some, word), (out + [None])[0], (some, word))

    def test_all_small_hits_go_where_the_document_says(self):
        for some, word in small_cases():
            left = left_of(some, word)
            for hit in some:
                at = [place for place, row in enumerate(left[1:]) if hit in left[place] and hit not in row]
                place = (at + [None])[0]
                self.assertEqual(steps.goes_at(some, word, hit[0]), place, (some, word, hit))
                barred = () if place is None else self.barring(hit, word[place], left[place], left[place + 1])
                self.assertEqual(steps.barred_by(some, word, hit[0]), barred, (some, word, hit))

    def barring(self, hit, step, got, leaves):
        """By whom this hit goes at this step."""
        if step[0] == "near":
            return tuple(one[0] for one in got if not any(is_better(other, one) for other in got))
        if step[0] == "each":
            return tuple(one[0] for one in leaves if one[2][step[1]] == hit[2][step[1]])
        return names_in(leaves) if step[0] == "top" else ()


class ScoreNeededTest(Case):

    def test_single_steps(self):
        for word, name, score in (
            ((("floor", 4),), "q", 4), ((("floor", 4), ("floor", 6)), "n", 6), ((("near", 2),), "q", 5),
            ((("near", 0),), "m", 7), ((("near", 3), ("near", 1)), "n", 6), ((("top", 1),), "p", 8),
            ((("top", 1),), "n", 7), ((("top", 1),), "q", 8), ((("top", 2),), "q", 8), ((("top", 2),), "o", 7),
            ((("top", 2),), "m", 7), ((("top", 3),), "o", 6), ((("top", 5),), "q", None), ((("top", 4),), "q", 6),
            ((("each", 0, 1),), "o", 6), ((("each", 0, 1),), "m", 5), ((("each", 0, 1),), "p", None),
            ((("each", 1, 1),), "p", 6), ((("each", 1, 3),), "q", None), ((), "q", None),
        ):
            self.gives(score, steps.score_needed, hits=TIES, word=word, name=name)

    def test_one_alone(self):
        alone = (("a", 5, ("s",)),)
        for word, score in (((), None), ((("top", 1),), None), ((("near", 0),), None), ((("each", 0, 1),), None),
                            ((("floor", 9), ("top", 1)), 9), ((("floor", -FAR),), -FAR)):
            self.gives(score, steps.score_needed, hits=alone, word=word, name="a")

    def test_numbers_at_their_bounds(self):
        self.gives(FAR, steps.score_needed, hits=WIDE, word=(("near", 0),), name="low")
        self.gives(0, steps.score_needed, hits=WIDE, word=(("near", FAR),), name="low")
        self.gives(FAR + 1, steps.score_needed, hits=WIDE, word=(("top", 1),), name="low")
        self.gives(-FAR, steps.score_needed, hits=WIDE, word=(("top", 1),), name="far")
        self.gives(-2 * FAR, steps.score_needed, hits=WIDE, word=(("near", FAR),), name="far")

    def test_all_small_hits(self):
        scores = range(-5, 9)
        for some, word in itertools.islice(small_cases(), 0, None, 3):
            for at, (name, _, labels) in enumerate(some):
                turned = [some[:at] + ((name, score, labels),) + some[at + 1:] for score in scores]
                good = [name in names_in(left_of(row, word)[-1]) for row in turned]
                # With each greater score it would be picked, too.
                self.assertEqual(good, sorted(good), (some, word, name))
                self.assertTrue(good[-1], (some, word, name))
                score = None if good[0] else scores[good.index(True)]
                self.assertEqual(steps.score_needed(some, word, name), score, (some, word, name))


class ErrorsTest(Case):
    words = ((("each", 1, 1),), (("floor", 99), ("each", 1, 1)), (("top", 1), ("each", 0, 1), ("each", 1, 1)))

    def test_no_kind(self):
        for word in self.words:
            for function in (steps.picked, steps.page, steps.left_along, steps.best_left_out):
                self.fails(NoKind, {"kind": 1}, function, hits=HITS, word=word)

    def test_no_kind_comes_ahead_of_no_name(self):
        for word in self.words:
            for function in (steps.goes_at, steps.barred_by, steps.score_needed):
                self.fails(NoKind, {"kind": 1}, function, hits=HITS, word=word, name="a")
                self.fails(NoKind, {"kind": 1}, function, hits=HITS, word=word, name="q")

    def test_the_first_step_decides(self):
        word = (("each", 0, 1), ("each", 2, 1), ("each", 1, 1))
        self.fails(NoKind, {"kind": 2}, steps.picked, hits=HITS, word=word)
        self.fails(NoKind, {"kind": 2}, steps.picked, hits=TIES, word=word)
        self.fails(NoKind, {"kind": 1}, steps.picked, hits=HITS, word=word[::-1])
        self.gives(("far",), steps.picked, hits=WIDE, word=word)

    def test_no_hits_raise_no_kind(self):
        word = (("each", 2, 1), ("top", 1))
        self.gives((), steps.picked, hits=(), word=word)
        self.gives((), steps.page, hits=(), word=word)
        self.gives([(), ()], steps.left_along, hits=(), word=word)
        self.gives(None, steps.best_left_out, hits=(), word=word)

    def test_no_name(self):
        for function in (steps.goes_at, steps.barred_by, steps.score_needed):
            for some in ((), HITS):
                for word in ((), LATE, (("floor", 99), ("near", 0))):
                    self.fails(NoName, {"name": "q"}, function, hits=some, word=word, name="q")
            self.fails(NoName, {"name": "q"}, function, hits=(), word=(("each", 2, 1),), name="q")


if __name__ == "__main__":
    unittest.main()
