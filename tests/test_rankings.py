"""Pickers by rankings: point [12]."""

import itertools
import unittest

from partpicks import errors, rankings, tables
from partpicks.errors import NoName
from tests.helper import (EDGES, FIVES, HITS, LONE, LONE_NOTHING, NOTHING, ODD, ODD_PICKER, Case, all_pickers, deep,
                          picker_from, sets_of, words_of)

SAMPLES = (ODD_PICKER, EDGES, NOTHING, LONE, LONE_NOTHING) + FIVES
TWOS = list(all_pickers(("a", "b")))
THREES = list(all_pickers(("a", "b", "c")))
ABCDE = ("a", "b", "c", "d", "e")
# Six rankings that only together tell what they tell: each one ends with another wide set of three names or two.
SIX = (("a", "b", "c", "d", "e"), ("b", "c", "a", "e", "d"), ("c", "e", "b", "d", "a"), ("d", "a", "e", "b", "c"),
       ("e", "d", "a", "c", "b"), ("b", "d", "c", "a", "e"))


def all_rankings(names):
    """All rankings of these names, with all or some of them."""
    return [ranking for size in range(len(names) + 1) for ranking in itertools.permutations(names, size)]


def oracle_best(ranking, some):
    """The first of these names in the ranking; None if there is none."""
    return next((name for name in ranking if name in some), None)


def oracle_picker(names, rows):
    """The picker that the rankings tell."""
    return picker_from(names, lambda menu: {oracle_best(row, menu) for row in rows} - {None})


def oracle_is_within(picker, ranking):
    """Whether from each set of names of the picker the best by the ranking is picked."""
    return all(oracle_best(ranking, menu) in (None, *some) for menu, some in picker[1])


def oracle_shown(picker):
    """The set of the shown names."""
    return tuple(sorted({name for menu, some in picker[1] for name in some}))


def fewest_that_tell(names):
    """For each picker of these names that some rankings tell how few of them do, found one ranking more at a time."""
    single = [oracle_picker(names, [row]) for row in all_rankings(names)]
    found = {oracle_picker(names, []): 0}
    latest = list(found)
    for size in itertools.count(1):
        both = {unite(one, other): True for one in latest for other in single}
        latest = [picker for picker in both if picker not in found]
        if not latest:
            return found
        found.update({picker: size for picker in latest})


def unite(one, other):
    """The picker that picks what one of both picks."""
    rows = zip(one[1], other[1])
    return (one[0], tuple((menu, tuple(sorted({*some, *others}))) for (menu, some), (_, others) in rows))


def are_apart(sets):
    """Whether none of these sets is within another one."""
    return not any(set(one) <= set(other) for one, other in itertools.permutations(sets, 2))


def most_ends_apart(picker):
    """How many ends there can be, none of them within another one."""
    wide, shown = tables.wide_sets(picker), oracle_shown(picker)
    ends = [some for some in wide
            if sum(tuple(sorted({*some, name})) in wide for name in shown if name not in some) == 1]
    return max(size for size in range(len(ends) + 1) if any(map(are_apart, itertools.combinations(ends, size))))


class ExampleTest(Case):

    def test_example(self):
        self.assertEqual(self.follows_example("rankings.txt", words_of(rankings, errors)), 4)


class BestTest(Case):

    def test_ordinary_ones(self):
        for ranking, some, best in (
            (("b", "a"), ("a", "c"), "a"), ((), ("a",), None), (("a",), (), None), ((), (), None),
            (("q",), ("a",), None),
            (("b", "a"), ("a", "b"), "b"), (("zz", "z", "a"), ("a", "z"), "z"), (ABCDE[::-1], ("a", "b"), "b"),
        ):
            self.gives(best, rankings.best_by, ranking=ranking, some=some)

    def test_all_small_rankings(self):
        for ranking, some in itertools.product(all_rankings("abcd"), sets_of("abcd")):
            self.assertEqual(rankings.best_by(ranking, some), oracle_best(ranking, some), (ranking, some))


class PickerByTest(Case):

    def test_ordinary_ones(self):
        self.gives(NOTHING, rankings.picker_by, names=("a", "b"), rankings=())
        self.gives(NOTHING, rankings.picker_by, names=("a", "b"), rankings=((), ("q",), ()))
        self.gives(LONE, rankings.picker_by, names=("q",), rankings=(("q",),))
        self.gives(LONE_NOTHING, rankings.picker_by, names=("q",), rankings=(("a",), ()))
        self.gives(EDGES, rankings.picker_by, names=("a", "b", "c"), rankings=(("a", "b", "c"), ("c", "b", "a")))
        self.gives(FIVES[0], rankings.picker_by, names=ABCDE, rankings=(ABCDE, ABCDE[::-1], ABCDE))
        self.gives(FIVES[1], rankings.picker_by, names=ABCDE, rankings=tuple((name,) for name in "ecabd"))
        self.gives(FIVES[5], rankings.picker_by, names=ABCDE, rankings=(("a",), ("e", "zz"), ("q", "c")))

    def test_rankings_of_up_to_four_names(self):
        for names in (("a",), ("a", "c"), ("b", "c", "d"), ("a", "b", "c", "d")):
            for rows in itertools.product(all_rankings("abcd")[::5], repeat=2):
                picker = rankings.picker_by(names, rows)
                self.assertEqual(picker, oracle_picker(names, rows), (names, rows))
                self.assertTrue(tables.is_picker(picker), (names, rows))
                # What rankings tell is the same by covers.
                self.assertTrue(tables.is_same_by_covers(picker), (names, rows))


class WithinTest(Case):

    def test_ordinary_ones(self):
        for picker, ranking, answer in (
            (EDGES, ("a", "b", "c"), True), (EDGES, ("b", "a", "c"), False), (EDGES, ("c", "a", "b"), True),
            (EDGES, (), True), (EDGES, ("b",), False), (EDGES, ("a",), True), (EDGES, ("q", "a", "zz", "c"), True),
            (NOTHING, (), True), (NOTHING, ("a",), False), (NOTHING, ("c", "d"), True), (LONE, ("q",), True),
            (LONE_NOTHING, ("q",), False), (ODD_PICKER, ("a", "b", "c"), True), (ODD_PICKER, ("b", "a", "c"), False),
            (FIVES[5], ("a", "c", "e"), True), (FIVES[5], ("a", "b", "c", "e"), False),
        ):
            self.gives(answer, rankings.is_ranking_within, picker=picker, ranking=ranking)

    def test_all_small_pickers(self):
        for picker in TWOS + THREES[::29]:
            for ranking in all_rankings("abcd"):
                answer = oracle_is_within(picker, ranking)
                self.assertIs(rankings.is_ranking_within(picker, ranking), answer, (picker, ranking))

    def test_how_many(self):
        for picker in SAMPLES + tuple(TWOS):
            many = sum(oracle_is_within(picker, row) for row in itertools.permutations(oracle_shown(picker)))
            self.gives(many, rankings.how_many_within, picker=picker)
        for picker, many in ((ODD_PICKER, 2), (EDGES, 4), (NOTHING, 1), (LONE, 1), (LONE_NOTHING, 1), (FIVES[0], 16),
                             (FIVES[1], 120), (FIVES[5], 6)):
            self.gives(many, rankings.how_many_within, picker=picker)

    def test_how_many_of_all_small_pickers(self):
        for picker in THREES[::3]:
            many = sum(oracle_is_within(picker, row) for row in itertools.permutations(oracle_shown(picker)))
            self.assertEqual(rankings.how_many_within(picker), many, picker)


class FewestTest(Case):

    def has_its_fewest(self, picker, many):
        """So many rankings tell the picker, by the words of the document; None: there are none."""
        self.assertEqual(rankings.fewest_rankings(picker), many, picker)
        rows = rankings.rankings_for(picker)
        if many is None:
            self.assertIsNone(rows, picker)
            return
        self.assertEqual(len(rows), many, picker)
        self.assertEqual(oracle_picker(picker[0], rows), picker, rows)
        self.assertTrue(rankings.is_rankings_for(picker, rows), (picker, rows))

    def test_all_pickers_of_up_to_three_names(self):
        for pickers in (list(all_pickers(("a",))), TWOS, THREES):
            fewest = fewest_that_tell(pickers[0][0])
            self.assertEqual([picker for picker in fewest if picker not in pickers], [])
            for picker in pickers:
                self.has_its_fewest(picker, fewest.get(picker))

    def test_exactly_if_it_is_the_same_by_covers(self):
        for picker in TWOS + THREES + list(SAMPLES):
            is_told = rankings.fewest_rankings(picker) is not None
            self.assertIs(is_told, tables.is_same_by_covers(picker), picker)
            if is_told:
                # All rankings within it tell it together.
                rows = tuple(row for row in all_rankings(picker[0]) if oracle_is_within(picker, row))
                self.assertEqual(rankings.picker_by(picker[0], rows), picker)

    def test_as_many_as_ends_apart(self):
        for picker in [picker for picker in THREES if tables.is_same_by_covers(picker)]:
            self.assertEqual(rankings.fewest_rankings(picker), most_ends_apart(picker), picker)
        rows = [oracle_picker(ABCDE, SIX[:size]) for size in range(1, 7)]
        for picker in rows + [oracle_picker(ABCDE, SIX[size:size + 3]) for size in range(3)]:
            self.has_its_fewest(picker, most_ends_apart(picker))

    def test_four_names(self):
        names = ("a", "b", "c", "d")
        fewest = fewest_that_tell(names)
        self.assertEqual((len(fewest), max(fewest.values())), (596, 4))
        for picker, many in fewest.items():
            self.has_its_fewest(picker, many)

    def test_five_names(self):
        for picker, many in zip(FIVES, (2, 5, None, None, None, 3, most_ends_apart(FIVES[6]))):
            self.has_its_fewest(picker, many)

    def test_however_it_is_asked_for(self):
        for picker, many in ((EDGES, 2), (NOTHING, 0), (LONE, 1), (LONE_NOTHING, 0), (FIVES[1], 5), (FIVES[0], 2)):
            self.gives(many, rankings.fewest_rankings, picker=picker)
            rows = self.told(rankings.rankings_for, picker=picker)
            self.assertIs(type(rows), tuple)
            self.judges(rankings.is_rankings_for, [rows], [], picker=picker)
        for picker in (ODD_PICKER, FIVES[2], FIVES[4]):
            self.gives(None, rankings.fewest_rankings, picker=picker)
            self.gives(None, rankings.rankings_for, picker=picker)


class IsRankingsForTest(Case):

    def test_things_of_all_kinds(self):
        right = (("a", "b", "c"), ("c", "b", "a"))
        wrong = [
            *[thing for thing in ODD if thing != ()], list(right), (list(right[0]), right[1]),
            (right[0], list(right[1])), (), ((),), right[:1], right[1:], right + (("b",),), right + (("b", "a", "c"),),
            right + (("a", "a"),),
            (("a", "b", "c", "a"), right[1]), right + (None,), right + ("a",), right + ("abc",), right + ((1,),),
            right + (("A",),), right + (("",),), right + (("abcdefghi",),), right + (deep(8),), right + ((("a",),),),
            (right,), right[0], right + ((True,),), right + ([],),
        ]
        self.judges(rankings.is_rankings_for, [
            right, right[::-1], right + right, right + ((),), right + (("a", "c", "b"), ("c", "a", "b")), right * 40,
            (("a", "b", "c", "z"), ("zz", "c", "y", "b", "a")), right + (("q", "r"),), (("a", "b"), ("c", "b", "a")),
            right + (tuple(one + other for one in "qrst" for other in "abcdefgh"),),
        ], wrong, picker=EDGES)
        self.judges(rankings.is_rankings_for, [], [*wrong, right], picker=ODD_PICKER)
        self.judges(rankings.is_rankings_for, [(), ((),), (("q",),), ((), ("c", "d"))], [(("a",),), (("q", "b"),), []],
                    picker=NOTHING)
        self.judges(rankings.is_rankings_for, [(("q",),), ((), ("a", "q"))], [(), ((),), (("a",),), ["q"], [("q",)]],
                    picker=LONE)

    def test_all_small_rankings(self):
        pickers = TWOS + THREES[::301] + [EDGES, ODD_PICKER]
        for rows in itertools.product(all_rankings("abc"), repeat=2):
            for picker in pickers:
                answer = oracle_picker(picker[0], rows) == picker
                self.assertIs(rankings.is_rankings_for(picker, rows), answer, (picker, rows))


class GreatestMenusTest(Case):

    def test_ordinary_ones(self):
        for picker, name, menus in (
            (EDGES, "b", [("a", "b"), ("b", "c")]), (EDGES, "a", [("a", "b", "c")]), (NOTHING, "b", []),
            (LONE, "q", [("q",)]), (LONE_NOTHING, "q", []), (ODD_PICKER, "b", [("a", "b"), ("b", "c")]),
            (ODD_PICKER, "a", [("a", "b", "c")]), (FIVES[1], "d", [ABCDE]), (FIVES[5], "d", []),
            (FIVES[2], "c", [("a", "c", "d", "e"), ("b", "c", "d", "e")]),
            (picker_from(("a", "b", "c"), lambda menu: menu if len(menu) == 2 else ()), "c", [("a", "c"), ("b", "c")]),
        ):
            self.gives(menus, rankings.greatest_menus, picker=picker, name=name)

    def test_all_small_pickers(self):
        for picker in TWOS + THREES[::17] + list(FIVES):
            for name in picker[0]:
                menus = [menu for menu, some in picker[1] if name in some]
                greatest = sorted(menu for menu in menus if not any(set(menu) < set(more) for more in menus))
                self.assertEqual(rankings.greatest_menus(picker, name), greatest, (picker, name))

    def test_no_name(self):
        for picker, name in ((EDGES, "d"), (NOTHING, "c"), (LONE, "qq"), (LONE_NOTHING, "a"), (FIVES[3], "f")):
            self.fails(NoName, {"name": name}, rankings.greatest_menus, picker=picker, name=name)

    def test_pickers_of_hits(self):
        picker = tables.picker_of(HITS, (("each", 0, 1), ("top", 2)))
        self.gives([("a", "b", "c")], rankings.greatest_menus, picker=picker, name="c")
        self.gives([("b", "c")], rankings.greatest_menus, picker=picker, name="b")
        self.gives(2, rankings.fewest_rankings, picker=picker)


if __name__ == "__main__":
    unittest.main()
