"""Pickers by tables: point [11]."""

import itertools
import unittest

from partpicks import errors, steps, tables
from partpicks.errors import NoKind, NoName, NoPaper
from tests.helper import (EDGES, FAR, FIVES, HITS, LONE, LONE_NOTHING, NOTHING, ODD, ODD_PICKER, TIES, WIDE, Case,
                          all_pickers, deep, picker_from, picks, sets_of, small_words, those, together, words_of)

EARLY, LATE = (("top", 2), ("each", 0, 1)), (("each", 0, 1), ("top", 2))
SAMPLES = (ODD_PICKER, EDGES, NOTHING, LONE, LONE_NOTHING) + FIVES
TWOS = list(all_pickers(("a", "b")))
THREES = list(all_pickers(("a", "b", "c")))


def oracle_table(picker):
    """For each set of the names what is picked from it."""
    return dict([((), ()), *picker[1]])


def oracle_heritage_breaks(picker):
    """The triples by the words of the document."""
    table = oracle_table(picker)
    return sorted((menu, less, name) for menu in table for less in sets_of(menu) if less != menu
                  for name in less if name in table[menu] and name not in table[less])


def oracle_outcast_breaks(picker):
    """The pairs by the words of the document."""
    table = oracle_table(picker)
    return sorted((menu, less) for menu in table for less in sets_of(menu)
                  if less != menu and set(table[menu]) <= set(less) and table[less] != table[menu])


def covers_of(some, most):
    """All covers of the set by at most so many sets."""
    for size in range(most + 1):
        for cover in itertools.product(sets_of(some), repeat=size):
            if together(cover) == some:
                yield cover


def is_cut(cover):
    """Whether no name is in two of these sets."""
    return len(together(cover)) == sum(map(len, cover))


def is_unlike(picker, cover):
    """Whether what is picked from each one, put together and picked from, is not what is picked from all."""
    table = oracle_table(picker)
    return table[together([table[some] for some in cover])] != table[together(cover)]


def oracle_wide_sets(picker):
    """The wide sets by the words of the document."""
    table = oracle_table(picker)
    return sorted(some for some in table if all(table[together([some, (name,)])] != table[some]
                                                for name in picker[0] if name not in some))


class ExampleTest(Case):

    def test_example(self):
        self.assertEqual(self.follows_example("tables.txt", words_of(tables, errors)), 5)


class IsPickerTest(Case):

    def test_right_ones(self):
        self.judges(tables.is_picker, [*SAMPLES, *TWOS, *THREES[::500]], [])
        # However many names: six of them have 63 menus.
        self.judges(tables.is_picker, [picker_from(tuple("abcdef"), lambda menu: menu[-2:]),
                                       picker_from(("zzzzzzzz",), lambda menu: ())], [])

    def test_wrong_ones(self):
        names, rows = ODD_PICKER
        self.judges(tables.is_picker, [], [
            *ODD, (), (names,), (names, rows, ()), [names, rows], (list(names), rows), (names, list(rows)),
            (rows, names),
            ((), ()), ((), (((), ()),)), (names, ()), (names, rows[1:]), (names, rows[:-1]), (names, rows[::-1]),
            (names, rows + rows[:1]), (names, rows + rows[-1:]), (names, (((), ()),) + rows),
            (names, (((), ()),) + rows[1:]),
            (names, (rows[0],) + rows[:6]), (("a", "b"), rows), (("a", "b", "c", "d"), rows), (("a", "b", "d"), rows),
            (("b", "a", "c"), rows), (("a", "a", "b"), rows), (("a",), ((("a",), ("b",)),)),
            (("a",), ((("b",), ("b",)),)),
            (("a",), ((("a",), ("a", "a")),)), (("a",), (("a", "a"),)), (("a",), ((("a",),),)), (("a",), (("a",),)),
            (("a",), ((("a",), ("a",), ()),)), (("a",), ((["a"], ("a",)),)), (("a",), ((("a",), ["a"]),)),
            (("a",), ([("a",), ("a",)],)), (("a",), ((("a",), None),)), (("a",), ((None, ()),)), (("a",), (None,)),
            (("A",), ((("A",), ()),)), (("abcdefghi",), ((("abcdefghi",), ()),)), ((1,), (((1,), ()),)),
            ("a", ("a", "a")),
            (("",), ((("",), ()),)), (("a", "b"), ((("a",), ()), (("b",), ()), (("a", "b"), ()))), (None, None),
            (("a", "b"), ((("a",), ()), (("b", "a"), ()), (("b",), ()))), (True, False), (("a",), deep(11)),
            (("a",), ((("a",), (None,)),)), (("a", True), rows[:3]), ("abc", rows), (("a",), "a"),
        ])

    def test_many_names_and_few_rows(self):
        names = tuple(sorted(one + other for one in "abcdefgh" for other in "abcdefgh"))
        self.judges(tables.is_picker, [], [(names, ()), (names, ((names, ()),)), (names[:30], ODD_PICKER[1])])


class PickedFromTest(Case):

    def test_all_menus(self):
        for picker in SAMPLES:
            for some, names in oracle_table(picker).items():
                self.gives(names, tables.picked_from, picker=picker, some=some)

    def test_no_name(self):
        for some, name in ((("q",), "q"), (("a", "q"), "q"), (("aa", "b"), "aa"), (("d", "e"), "d"),
                           (("a", "b", "c", "z"), "z")):
            self.fails(NoName, {"name": name}, tables.picked_from, picker=ODD_PICKER, some=some)
            self.fails(NoName, {"name": name}, tables.picked_from, picker=EDGES, some=some)
        self.fails(NoName, {"name": "a"}, tables.picked_from, picker=LONE_NOTHING, some=("a", "q"))


class PickerOfTest(Case):

    def test_all_small_words(self):
        for some in (HITS, TIES, WIDE, HITS[:1], TIES[1:]):
            for word in small_words((("floor", 6), ("near", 1), ("each", 0, 1), ("each", 0, 2), ("top", 2)), 2):
                picker = tables.picker_of(some, word)
                self.assertTrue(tables.is_picker(picker), (some, word))
                names = tuple(hit[0] for hit in some)
                self.assertEqual(picker, picker_from(names, lambda menu: picks(those(some, menu), word)), (some, word))

    def test_ordinary_ones(self):
        self.gives((("a",), ((("a",), ("a",)),)), tables.picker_of, hits=HITS[:1], word=EARLY)
        self.gives((("a",), ((("a",), ()),)), tables.picker_of, hits=HITS[:1], word=(("floor", 11),))
        self.gives((("far", "low"), ((("far",), ("far",)), (("far", "low"), ("far",)), (("low",), ("low",)))),
                   tables.picker_of, hits=WIDE, word=(("near", 2 * FAR - 1),))
        rows = ((("a",), ("a",)), (("a", "b"), ("a",)), (("a", "b", "c"), ("a",)), (("a", "c"), ("a", "c")),
                (("b",), ("b",)), (("b", "c"), ("b", "c")), (("c",), ("c",)))
        self.gives((("a", "b", "c"), rows), tables.picker_of, hits=HITS, word=EARLY)

    def test_no_kind(self):
        for word, kind in (((("each", 1, 1),), 1), ((("each", 2, 1), ("each", 1, 1)), 2),
                           (EARLY + (("each", 1, 9),), 1), ((("top", 1), ("each", 2, 1)), 2)):
            self.fails(NoKind, {"kind": kind}, tables.picker_of, hits=HITS, word=word)
            self.fails(NoKind, {"kind": kind}, tables.picker_of, hits=HITS[:1], word=word)
        self.fails(NoKind, {"kind": 2}, tables.picker_of, hits=TIES, word=LATE + (("each", 2, 1),))


class BreaksTest(Case):

    def test_ordinary_ones(self):
        self.gives([(("a", "b"), ("a",), "a")], tables.heritage_breaks,
                   picker=(("a", "b"), ((("a",), ()), (("a", "b"), ("a",)), (("b",), ("b",)))))
        self.gives([(("a", "b"), ("a",))], tables.outcast_breaks,
                   picker=(("a", "b"), ((("a",), ()), (("a", "b"), ("a",)), (("b",), ("b",)))))
        self.gives([(("a", "b"), ("a",), "a"), (("a", "b"), ("b",), "b")], tables.heritage_breaks,
                   picker=(("a", "b"), ((("a",), ()), (("a", "b"), ("a", "b")), (("b",), ()))))
        self.gives([(("a", "b"), ("a",)), (("a", "b"), ("b",))], tables.outcast_breaks,
                   picker=(("a", "b"), ((("a",), ("a",)), (("a", "b"), ()), (("b",), ("b",)))))

    def test_samples(self):
        for picker in SAMPLES:
            heritage, outcast = oracle_heritage_breaks(picker), oracle_outcast_breaks(picker)
            self.gives(heritage, tables.heritage_breaks, picker=picker)
            self.gives(outcast, tables.outcast_breaks, picker=picker)
            self.gives(heritage == [], tables.has_heritage, picker=picker)
            self.gives(outcast == [], tables.has_outcast, picker=picker)
        self.assertEqual([tables.has_heritage(picker) for picker in SAMPLES],
                         [True, True, True, True, True, True, True, False, False, False, True, True])
        self.assertEqual([tables.has_outcast(picker) for picker in SAMPLES],
                         [False, True, True, True, True, True, True, False, False, False, True, True])

    def test_all_small_pickers(self):
        for picker in TWOS + THREES[::5]:
            heritage, outcast = oracle_heritage_breaks(picker), oracle_outcast_breaks(picker)
            self.assertEqual(tables.heritage_breaks(picker), heritage, picker)
            self.assertEqual(tables.outcast_breaks(picker), outcast, picker)
            self.assertIs(tables.has_heritage(picker), not heritage, picker)
            self.assertIs(tables.has_outcast(picker), not outcast, picker)


class SameTest(Case):

    def test_by_all_covers_and_all_cuts_of_two_names(self):
        for picker in TWOS:
            covers = [cover for some in sets_of(picker[0]) for cover in covers_of(some, 4)]
            self.gives(not any(is_unlike(picker, cover) for cover in covers), tables.is_same_by_covers, picker=picker)
            self.gives(not any(is_unlike(picker, cover) for cover in covers if is_cut(cover)), tables.is_same_by_cuts,
                       picker=picker)

    def test_by_all_covers_and_all_cuts_of_three_names(self):
        covers = [cover for some in sets_of("abc") for cover in covers_of(some, 3)]
        cuts = [cover for cover in covers if is_cut(cover)]
        for picker in THREES[::37] + [picker for picker in THREES[::3] if tables.is_same_by_cuts(picker)]:
            by_covers = not any(is_unlike(picker, cover) for cover in covers)
            by_cuts = not any(is_unlike(picker, cover) for cover in cuts)
            self.assertIs(tables.is_same_by_covers(picker), by_covers, picker)
            self.assertIs(tables.is_same_by_cuts(picker), by_cuts, picker)

    def test_guarantees(self):
        for picker in THREES + list(SAMPLES):
            both = tables.has_heritage(picker) and tables.has_outcast(picker)
            self.assertIs(tables.is_same_by_covers(picker), both, picker)
            if tables.is_same_by_cuts(picker):
                self.assertTrue(tables.has_heritage(picker), picker)
            elif tables.is_same_by_covers(picker):
                self.fail(picker)
        # By cuts it can be the same without having outcast.
        self.assertTrue(tables.is_same_by_cuts(ODD_PICKER) and not tables.has_outcast(ODD_PICKER))

    def test_five_names(self):
        for picker, by_covers, by_cuts in zip(FIVES, (True, True, False, False, False, True, True),
                                              (True, True, False, False, False, True, True)):
            self.gives(by_covers, tables.is_same_by_covers, picker=picker)
            self.gives(by_cuts, tables.is_same_by_cuts, picker=picker)


class AgainstTest(Case):

    def is_pair(self, picker, pair):
        """The pair is one of sets of names that shows by the words of the document that the picker is not the same."""
        self.assertIs(type(pair), tuple, picker)
        self.assertEqual([some in sets_of(picker[0]) for some in pair], [True, True], (picker, pair))
        self.assertTrue(is_unlike(picker, pair), (picker, pair))

    def test_all_small_pickers(self):
        for picker in TWOS + THREES[::7] + list(SAMPLES):
            for function, judge, is_same, fitting in (
                (tables.cover_against, tables.is_cover_against, tables.is_same_by_covers(picker), lambda pair: True),
                (tables.cut_against, tables.is_cut_against, tables.is_same_by_cuts(picker), is_cut),
            ):
                if is_same:
                    with self.assertRaises(NoPaper, msg=picker):
                        function(picker)
                else:
                    pair = function(picker)
                    self.is_pair(picker, pair)
                    self.assertTrue(fitting(pair), (picker, pair))
                    self.assertTrue(judge(picker, pair), (picker, pair))

    def test_the_same_pair_however_it_is_asked_for(self):
        for picker in FIVES[2:5]:
            self.is_pair(picker, self.told(tables.cover_against, picker=picker))
            self.is_pair(picker, self.told(tables.cut_against, picker=picker))
        self.is_pair(ODD_PICKER, self.told(tables.cover_against, picker=ODD_PICKER))

    def test_no_paper(self):
        for picker in (EDGES, NOTHING, LONE, LONE_NOTHING, FIVES[0], FIVES[1]):
            self.fails(NoPaper, {}, tables.cover_against, picker=picker)
            self.fails(NoPaper, {}, tables.cut_against, picker=picker)
        self.fails(NoPaper, {}, tables.cut_against, picker=ODD_PICKER)

    def test_all_pairs(self):
        for picker in TWOS + THREES[::97] + [ODD_PICKER, EDGES, FIVES[2], FIVES[4]]:
            for pair in itertools.product(sets_of(picker[0]), repeat=2):
                answer = is_unlike(picker, pair)
                self.assertIs(tables.is_cover_against(picker, pair), answer, (picker, pair))
                self.assertIs(tables.is_cut_against(picker, pair), answer and is_cut(pair), (picker, pair))

    def test_things_of_all_kinds(self):
        right, two = (("a", "b", "c"), ("b",)), tables.picker_of(HITS, EARLY)
        wrong = [*ODD, (), right[0], (right[0],), right + ((),), list(right), (list(right[0]), ("b",)),
                 (right[0], ["b"]), (right[0], "b"), (("b", "a", "c"), ("b",)), (right[0], ("b", "b")),
                 (right[0], None), (right[0], ("b", "c")),
                 (right[0], ("b", "q")), (("a", "b", "c", "d"), ("b",)), (None, ("b",)), (right,), (right[0], ("q",)),
                 (right[0], (True,)), ((), ()), (("a",), ("a",)), (("",), ("b",)), (right[0], (("b",),))]
        self.judges(tables.is_cover_against, [right, right[::-1], (right[0], ("c",))], wrong, picker=ODD_PICKER)
        self.judges(tables.is_cut_against, [], [right, *wrong], picker=ODD_PICKER)
        self.judges(tables.is_cut_against, [(("a", "b"), ("c",)), (("c",), ("a", "b"))],
                    [*wrong, right, (["a", "b"], ("c",)), [("a", "b"), ("c",)], (("a", "b"), ("b", "c")),
                     (("a", "b"), ("c", "d")), (("a", "b"), ("c",), ())], picker=two)
        for judge in (tables.is_cover_against, tables.is_cut_against):
            self.judges(judge, [], [(("q",), ()), (("q",), ("q",)), ((), ("q",)), (("a",), ("q",)), *ODD], picker=LONE)


class WideSetsTest(Case):

    def test_samples(self):
        for picker in SAMPLES:
            self.gives(oracle_wide_sets(picker), tables.wide_sets, picker=picker)
        self.gives(sets_of("abc"), tables.wide_sets, picker=ODD_PICKER)
        self.gives([(), ("a",), ("a", "b"), ("a", "b", "c"), ("b",), ("b", "c"), ("c",)], tables.wide_sets,
                   picker=EDGES)
        self.gives([("a", "b")], tables.wide_sets, picker=NOTHING)
        self.gives([(), ("q",)], tables.wide_sets, picker=LONE)
        self.gives([("q",)], tables.wide_sets, picker=LONE_NOTHING)

    def test_all_small_pickers(self):
        for picker in TWOS + THREES[::3]:
            self.assertEqual(tables.wide_sets(picker), oracle_wide_sets(picker), picker)

    def test_pickers_of_hits(self):
        for word in small_words((("near", 1), ("each", 0, 1), ("each", 1, 1), ("top", 2)), 2):
            picker = tables.picker_of(TIES, word)
            self.gives(oracle_wide_sets(picker), tables.wide_sets, picker=picker)
            self.assertEqual(tables.picked_from(picker, picker[0]), steps.picked(TIES, word))


if __name__ == "__main__":
    unittest.main()
