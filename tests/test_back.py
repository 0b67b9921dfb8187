"""Words told back: point [15]."""

import itertools
import unittest

from partpicks import back, errors
from partpicks.errors import NoPaper
from tests.helper import (FAR, HITS, TIES, WIDE, Case, is_exactly, picks, small_hits, small_words, together, words_of)

TWO = (("w", 9, ("s", "p")), ("x", 5, ("s", "q")), ("z", 3, ("t", "q")))
MORE = HITS + (("d", 7, ("u",)),)
SETS = [tuple(names) for size in range(4) for names in itertools.combinations("abc", size)]


def oracle_plain_words(many, size, most):
    """All plain words by the words of the document."""
    steps = [("top", number) for number in range(1, most + 1)]
    steps += [("each", kind, number) for kind in range(many) for number in range(1, most + 1)]
    return sorted(small_words(steps, size))


def oracle_fitting(cases, many, size, most):
    """The plain words that fit all cases."""
    return [word for word in oracle_plain_words(many, size, most)
            if all(picks(some, word) == names for some, names in cases)]


def oracle_quarrel(cases, many, size, most):
    """The least of the smallest sets of places that no plain word fits."""
    places = range(len(cases))
    for less in range(len(cases) + 1):
        for row in itertools.combinations(places, less):
            if not oracle_fitting([cases[place] for place in row], many, size, most):
                return row
    return None


def oracle_range(cases, step, numbers):
    """The numbers, of these, with which the word of the one step fits all cases."""
    return [number for number in numbers
            if all(picks(some, ((step, number),)) == names for some, names in cases)]


class ExampleTest(Case):

    def test_example(self):
        self.assertEqual(self.follows_example("back.txt", words_of(back, errors)), 5)


class PlainWordsTest(Case):

    def test_all_of_them(self):
        for many, size, most in itertools.product((0, 1, 2, 3), (0, 1, 2, 3), (1, 2, 3)):
            rows = oracle_plain_words(many, size, most)
            told = back.plain_words(many, size, most)
            self.assertTrue(is_exactly(told, rows), (many, size, most))

    def test_ordinary_ones(self):
        for many, size, most, rows in (
            (0, 0, 1, [()]), (3, 0, 3, [()]), (0, 1, 2, [(), (("top", 1),), (("top", 2),)]),
            (0, 2, 1, [(), (("top", 1),), (("top", 1), ("top", 1))]),
            (1, 2, 1, [(), (("each", 0, 1),), (("each", 0, 1), ("top", 1)), (("top", 1),), (("top", 1), ("each", 0, 1)),
                       (("top", 1), ("top", 1))]),
            (2, 1, 1, [(), (("each", 0, 1),), (("each", 1, 1),), (("top", 1),)]),
        ):
            self.gives(rows, back.plain_words, many=many, size=size, most=most)
        self.assertEqual(len(back.plain_words(3, 3, 3)), 1048)


class FittingTest(Case):
    cases = (
        (), ((HITS, ("a", "c")),), ((HITS, ("a", "b", "c")),), ((HITS, ("b",)),), ((HITS, ()),), ((HITS, ("q",)),),
        (((), ()),), (((), ("a",)),), ((HITS, ("a", "b")), (HITS[1:], ("b", "c"))), ((HITS, ("a", "c")), ((), ())),
        ((HITS, ("a", "b")), (TIES, ("n", "p"))), ((HITS, ("a", "c")), (TIES, ("m", "n", "p")), (HITS[:1], ("a",))),
        ((TIES, ("n", "p")), (TIES[:2], ("n",)), (HITS, ("a",)), (WIDE, ("far",))), ((WIDE, ("far", "low")),) * 4,
    )

    def test_all_calls(self):
        for cases, (many, size, most) in itertools.product(self.cases, ((0, 2, 2), (1, 2, 2), (1, 3, 3), (1, 0, 1))):
            told = {"cases": cases, "many": many, "size": size, "most": most}
            rows = oracle_fitting(cases, many, size, most)
            self.gives(rows, back.fitting_words, **told)
            for some in (HITS, MORE, (), TIES):
                sets = [picks(some, word) for word in rows]
                if not rows:
                    self.fails(NoPaper, {}, back.surely_picked, **told, hits=some)
                    self.fails(NoPaper, {}, back.maybe_picked, **told, hits=some)
                else:
                    surely = tuple(sorted(set.intersection(*map(set, sets))))
                    self.gives(surely, back.surely_picked, **told, hits=some)
                    self.gives(together(sets), back.maybe_picked, **told, hits=some)

    def test_two_and_three_kinds(self):
        for cases in ((), ((TWO, ("w", "z")),), ((TWO, ("w",)), (TIES, ("n", "p"))), ((WIDE, ("far",)), ((), ()))):
            rows = oracle_fitting(cases, 2, 3, 2)
            self.assertEqual(back.fitting_words(cases, 2, 3, 2), rows, cases)
            sets = [picks(TIES, word) for word in rows]
            self.assertEqual(back.maybe_picked(cases, 2, 3, 2, TIES), together(sets), cases)
            surely = tuple(sorted(set.intersection(*map(set, sets))))
            self.assertEqual(back.surely_picked(cases, 2, 3, 2, TIES), surely, cases)
        case = ((WIDE, ("far",)),)
        self.assertEqual(back.fitting_words(case, 3, 2, 2), oracle_fitting(case, 3, 2, 2))

    def test_no_word_fits(self):
        for cases in (((HITS, ("b",)),), ((HITS, ("q",)),), (((), ("a",)),), ((HITS, ("a",)), (HITS, ("a", "b")))):
            for function in (back.surely_picked, back.maybe_picked):
                self.fails(NoPaper, {}, function, cases=cases, many=1, size=2, most=3, hits=HITS)
                self.fails(NoPaper, {}, function, cases=cases, many=0, size=0, most=1, hits=())

    def test_twelve_hits(self):
        some = tuple((name, at % 4, ("stu"[at % 3], "pq"[at % 2], "mn"[at // 6]))
                     for at, name in enumerate("abcdefghijkl"))
        word = (("each", 2, 2), ("top", 3))
        cases = ((some, picks(some, word)),)
        rows = oracle_fitting(cases, 3, 3, 3)
        self.assertIn(word, rows)
        self.assertEqual(back.fitting_words(cases, 3, 3, 3), rows)


class QuarrelTest(Case):

    def test_ordinary_ones(self):
        for cases, places in (
            ((), None), (((HITS, ("a", "c")),), None), (((HITS, ("b",)),), (0,)),
            (((HITS, ("a",)), (HITS, ("b",))), (1,)),
            (((HITS, ("a", "c")), (HITS, ("a", "b"))), (0, 1)), (((HITS, ("c",)), (HITS, ("b",))), (0,)),
            (((HITS, ("a", "c")), ((), ()), (HITS, ("a", "b")), (HITS, ("a",))), (0, 2)),
            (((HITS, ("a",)), (HITS, ("a",)), (HITS, ("a", "b")), (HITS, ("a", "c"))), (0, 2)),
            (((HITS, ("a", "b", "c")), (HITS, ("a", "c")), (HITS[:2], ("a", "b"))), (0, 1)),
            ((((), ("a",)),), (0,)), ((((), ()),) * 4, None),
        ):
            self.assertEqual(oracle_quarrel(cases, 1, 2, 2), places, cases)
            self.gives(places, back.least_quarrel, cases=cases, many=1, size=2, most=2)

    def test_three_that_quarrel_only_together(self):
        # Each two of these cases are fitted by some word, all three by none.
        crossed = (("a", 3, ("s",)), ("b", 2, ("t",)), ("c", 1, ("s",)))
        unlike = (("a", 3, ("s",)), ("b", 2, ("t",)), ("c", 1, ("u",)))
        cases = ((crossed, ("a", "b")), (unlike, ("a", "b", "c")), (HITS[:2], ("a", "b")))
        for two in itertools.combinations(cases, 2):
            self.gives(None, back.least_quarrel, cases=two, many=1, size=2, most=2)
        self.gives((0, 1, 2), back.least_quarrel, cases=cases, many=1, size=2, most=2)
        self.gives((1, 2, 3), back.least_quarrel, cases=(((), ()),) + cases, many=1, size=2, most=2)
        self.gives((0, 1, 3), back.least_quarrel, cases=cases[:2] + (((), ()),) + cases[2:], many=1, size=2, most=2)

    def test_all_small_cases(self):
        rows = [(some, names) for some in (HITS, HITS[1:]) for names in SETS[1:]] + [((), ())]
        for cases in list(itertools.product(rows, repeat=2)) + list(itertools.product(rows[::2], repeat=3))[::3]:
            places = oracle_quarrel(cases, 1, 1, 2)
            self.assertEqual(back.least_quarrel(cases, 1, 1, 2), places, cases)

    def test_other_bounds(self):
        cases = ((TWO, ("w", "z")), (TWO, ("w", "x")), (TWO, ("w",)))
        for many, size, most in itertools.product((0, 1, 2), (0, 1, 2), (1, 3)):
            self.gives(oracle_quarrel(cases, many, size, most), back.least_quarrel, cases=cases, many=many, size=size,
                       most=most)


class RangesTest(Case):

    def test_floors(self):
        for cases, pair in (
            ((), (None, None)), ((((), ()),), (None, None)), ((((), ("a",)),), None),
            (((HITS, ("a", "b", "c")),), (None, 8)),
            (((HITS, ("a",)),), (10, 10)), (((HITS, ()),), (11, None)), (((HITS, ("b",)),), None),
            (((HITS, ("a", "q")),), None), (((HITS, ("a", "c")),), None), (((TIES, ("n", "p")),), (6, 7)),
            (((TIES, ("n", "p")), (HITS, ("a", "b", "c"))), (6, 7)), (((TIES, ("n", "p")), (HITS, ("a", "b"))), None),
            (((TIES, ("m", "n", "o", "p")), (HITS, ("a", "b", "c")), ((), ())), (-2, 5)),
            (((WIDE, ("far",)),), (1 - FAR, FAR)), (((WIDE, ()),), (FAR + 1, None)),
            (((WIDE, ("far", "low")),), (None, -FAR)),
            (((HITS, ("a",)), (HITS, ("a",)), ((), ()), (WIDE, ("far",))), (10, 10)),
            (((HITS, ()), ((), ("q",))), None),
        ):
            self.gives(pair, back.floors_fitting, cases=cases)

    def test_nears(self):
        for cases, pair in (
            ((), (0, None)), ((((), ()),), (0, None)), ((((), ("a",)),), None), (((HITS, ("a", "b", "c")),), (2, None)),
            (((HITS, ("a",)),), (0, 0)), (((HITS, ()),), None), (((HITS, ("b",)),), None),
            (((HITS, ("b", "c")),), None),
            (((HITS, ("a", "q")),), None), (((HITS, ("a", "c")),), None), (((TIES, ("n", "p")),), (0, 1)),
            (((TIES, ("n",)),), None), (((TIES, ("m", "n", "o", "p")), (HITS, ("a", "b", "c"))), (2, 9)),
            (((TIES, ("n", "p")), (HITS, ("a", "b"))), (1, 1)), (((TIES, ("n", "p")), (HITS, ("a", "b", "c"))), None),
            (((WIDE, ("far",)),), (0, 2 * FAR - 1)), (((WIDE, ("far", "low")), ((), ())), (2 * FAR, None)),
            (((HITS[:1], ("a",)),), (0, None)), (((HITS[:1], ()),), None), (((HITS, ("a",)), ((), ("q",))), None),
        ):
            self.gives(pair, back.nears_fitting, cases=cases)

    def test_all_small_cases(self):
        rows = [(some, names) for some in small_hits("abc", (0, 2, 3), (("s",),))[::2] + [(), HITS[:1]]
                for names in SETS + [("q",)]]
        for cases in [(row,) for row in rows] + list(zip(rows, rows[5:])) + list(zip(rows, rows[1:], rows[9:])):
            for function, step, numbers in ((back.floors_fitting, "floor", range(-3, 15)),
                                            (back.nears_fitting, "near", range(15))):
                fitting = oracle_range(cases, step, numbers)
                pair = function(cases)
                if pair is None:
                    self.assertEqual(fitting, [], (step, cases))
                else:
                    low, high = pair
                    self.assertEqual([number for number in numbers if (low is None or low <= number)
                                      and (high is None or number <= high)], fitting, (step, cases))
                    self.assertIs(low is None, -3 in fitting, (step, cases))
                    self.assertIs(high is None, 14 in fitting, (step, cases))


if __name__ == "__main__":
    unittest.main()
