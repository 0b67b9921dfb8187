"""Hits and parts: point [4]."""

import unittest

from partpicks import errors, hits
from partpicks.errors import NoKind, NoName, Twice
from tests.helper import FAR, HITS, MANY, ODD, TIES, WIDE, Case, words_of


class ExampleTest(Case):

    def test_example(self):
        self.assertEqual(self.follows_example("hits.txt", words_of(hits, errors)), 6)


class IsHitsTest(Case):

    def test_right_ones(self):
        self.judges(hits.is_hits, [
            (), HITS, TIES, WIDE, MANY, (("a", 0, ("a",)),), (("abcdefgh", -1, ("abcdefgh", "z", "z")),),
            (("a", 1, ("s",)), ("aa", 1, ("s",)), ("ab", 1, ("s",)), ("b", 1, ("s",))),
            (("z", 100 ** 40, ("s",)),), (("az", 5, ("az",)),),
        ], [])

    def test_wrong_forms(self):
        self.judges(hits.is_hits, [], [
            *ODD, list(HITS), tuple(list(hit) for hit in HITS), [("a", 1, ("s",))],
            (["a", 1, ("s",)],), (("a", 1, ["s"]),), (("a", 1, "s"),), ("a", 1, ("s",)), (("a", 1),), (((),),), ((),),
            (("a", 1, ("s",), 1),), (("a", ("s",), 1),), (("a", 1, ("s",)), None), (("a", 1, ("s",)), ()),
            (("a", 1, ("s",)), "b"), (("a", 1, None),), (("a", 1, 1),), ("abc", "def"),
        ])

    def test_wrong_names(self):
        for name in ("", "A", "aB", "a1", "a b", "abcdefghi", "a-", "\u00e9", "\u03b1", "{", "`",
                     None, 1, True, ("a",), ["a"]):
            self.judges(hits.is_hits, [], [((name, 1, ("s",)),), (("a", 1, (name,)),), (("a", 1, ("s", name)),)])

    def test_wrong_scores(self):
        self.judges(hits.is_hits, [], [(("a", score, ("s",)),) for score in (True, False, None, "1", (), (1,), [1])])

    def test_wrong_labels(self):
        self.judges(hits.is_hits, [], [
            (("a", 1, ()),), (("a", 1, ("s",) * 4),),
            (("a", 1, ("s",)), ("b", 1, ("s", "t"))), (("a", 1, ("s", "t")), ("b", 1, ("s",))),
            (("a", 1, ("s",)), ("b", 1, ("s",)), ("c", 1, ("s", "s", "s"))), (("a", 1, ()), ("b", 1, ())),
        ])

    def test_wrong_order(self):
        self.judges(hits.is_hits, [], [
            HITS[::-1], (HITS[0], HITS[2], HITS[1]), (HITS[0], HITS[0]), HITS + HITS[2:],
            (("a", 1, ("s",)), ("a", 2, ("s",))), (("a", 1, ("s",)), ("a", 1, ("t",))),
            (("b", 1, ("s",)), ("ab", 2, ("s",))), (("aa", 1, ("s",)), ("a", 2, ("s",))),
        ])


class IsPartsTest(Case):

    def test_right_ones(self):
        self.judges(hits.is_parts, [
            (("a", "b", "c"),), (("a", "b"), ("c",)), (("c",), ("a", "b")), (("b",), ("a", "c")),
            (("a",), ("b",), ("c",)), ((), ("a", "b", "c"), ()), ((), (), (), (), (), (), (), ("a", "b", "c")),
        ], [], hits=HITS)
        self.judges(hits.is_parts, [((),), ((), ())], [(), (("a",),), ((), ("a",)), (((),),)], hits=())

    def test_wrong_ones(self):
        self.judges(hits.is_parts, [], [
            *ODD, (), ((),), [("a", "b", "c")], (["a", "b", "c"],), (("a", "b"), ["c"]), ("abc",), ("a", "b", "c"),
            (("a", "b"),), (("a",), ("c",)), (("a", "b"), ("b", "c")), (("a", "b", "c"), ("a",)),
            (("a", "b", "c"), ("a", "b", "c")), (("b", "a"), ("c",)), (("a", "a"), ("b", "c")), (("a", "b", "c", "c"),),
            (("a", "b", "c", "z"),), (("a", "b", "c"), ("z",)), (("a", "b", "c"), None), (("a", "b", "c"), 0),
            (("a", "b", "c"), ""), (("a", "b", "c", ""),), (("a", "b", 1),), (("a", "b", None), ("c",)),
            (("a", "b", ("c",)),), (("a", "b", True, "c"),), HITS,
        ], hits=HITS)


class TellingTest(Case):

    def test_names_of(self):
        self.gives((), hits.names_of, hits=())
        self.gives(("m", "n", "o", "p", "q"), hits.names_of, hits=TIES)

    def test_score_of(self):
        self.gives(-3, hits.score_of, hits=TIES, name="q")
        self.gives(7, hits.score_of, hits=TIES, name="n")
        self.gives(-FAR, hits.score_of, hits=WIDE, name="low")

    def test_labels_of(self):
        self.gives(("s", "y"), hits.labels_of, hits=TIES, name="o")
        self.gives(("zzzzzzzz", "t", "s"), hits.labels_of, hits=WIDE, name="low")

    def test_no_such_name(self):
        for function in (hits.score_of, hits.labels_of, hits.better, hits.without_hit):
            for some in ((), HITS):
                self.fails(NoName, {"name": "q"}, function, hits=some, name="q")
            self.fails(NoName, {"name": "aa"}, function, hits=HITS, name="aa")
            self.fails(NoName, {"name": "s"}, function, hits=HITS, name="s")

    def test_kinds(self):
        for many, some in ((0, ()), (1, HITS), (2, TIES), (3, WIDE)):
            self.gives(many, hits.kinds, hits=some)

    def test_labels_in(self):
        self.gives(("s", "t", "u"), hits.labels_in, hits=TIES, kind=0)
        self.gives(("x", "y"), hits.labels_in, hits=TIES, kind=1)
        self.gives(("s", "zzzzzzzz"), hits.labels_in, hits=WIDE, kind=0)
        self.gives(("s", "u"), hits.labels_in, hits=WIDE, kind=2)
        turned = tuple((name, 0, (label,)) for name, label in zip("abcdefghijkl", "zbyaxcwdvbaz"))
        self.gives(("a", "b", "c", "d", "v", "w", "x", "y", "z"), hits.labels_in, hits=turned, kind=0)

    def test_with_label(self):
        self.gives(("n", "q"), hits.with_label, hits=TIES, kind=0, label="t")
        self.gives(("m", "n", "q"), hits.with_label, hits=TIES, kind=1, label="x")
        self.gives((), hits.with_label, hits=TIES, kind=1, label="s")
        self.gives(("far", "low"), hits.with_label, hits=WIDE, kind=1, label="t")

    def test_no_such_kind(self):
        for some, wrong in (((), (0, 1, -1)), (HITS, (1, 2, -1, FAR, -FAR)), (TIES, (2, -1, -2)), (WIDE, (3, -1))):
            for kind in wrong:
                self.fails(NoKind, {"kind": kind}, hits.labels_in, hits=some, kind=kind)
                self.fails(NoKind, {"kind": kind}, hits.with_label, hits=some, kind=kind, label="s")

    def test_best_first(self):
        self.gives((), hits.best_first, hits=())
        self.gives(("n", "p", "m", "o", "q"), hits.best_first, hits=TIES)
        self.gives(("far", "low"), hits.best_first, hits=WIDE)
        self.gives(tuple(hit[0] for hit in reversed(MANY[:12])), hits.best_first, hits=MANY[:12])

    def test_better(self):
        for name, ahead in (("n", ()), ("p", ("n",)), ("m", ("n", "p")), ("o", ("m", "n", "p")),
                            ("q", ("m", "n", "o", "p"))):
            self.gives(ahead, hits.better, hits=TIES, name=name)
        turned = (("a", 1, ("s",)), ("b", 2, ("s",)), ("c", 3, ("s",)))
        self.gives(("b", "c"), hits.better, hits=turned, name="a")


class MakingTest(Case):

    def test_with_hit(self):
        self.gives((("x", -FAR, ("s", "t", "u")),), hits.with_hit, hits=(), name="x", score=-FAR,
                   labels=("s", "t", "u"))
        self.gives((("a", 99, ("t",)),) + HITS[1:], hits.with_hit, hits=HITS[1:], name="a", score=99, labels=("t",))
        self.gives(HITS + (("ca", 8, ("t",)),), hits.with_hit, hits=HITS, name="ca", score=8, labels=("t",))
        self.gives(TIES[:2] + (("na", 0, ("b", "a")),) + TIES[2:], hits.with_hit, hits=TIES, name="na", score=0,
                   labels=("b", "a"))

    def test_twice(self):
        for name in ("a", "b", "c"):
            self.fails(Twice, {"name": name}, hits.with_hit, hits=HITS, name=name, score=7, labels=("t",))
        self.fails(Twice, {"name": "a"}, hits.with_hit, hits=HITS, name="a", score=10, labels=("s",))

    def test_without_hit(self):
        self.gives(HITS[1:], hits.without_hit, hits=HITS, name="a")
        self.gives(HITS[:2], hits.without_hit, hits=HITS, name="c")
        self.gives((), hits.without_hit, hits=HITS[:1], name="a")
        self.gives(TIES[:1] + TIES[2:], hits.without_hit, hits=TIES, name="n")

    def test_part_of(self):
        self.gives((), hits.part_of, hits=HITS, some=())
        self.gives((), hits.part_of, hits=(), some=())
        self.gives(HITS, hits.part_of, hits=HITS, some=("a", "b", "c"))
        self.gives((TIES[1], TIES[4]), hits.part_of, hits=TIES, some=("n", "q"))

    def test_part_of_tells_the_first_name_that_is_none(self):
        self.fails(NoName, {"name": "aa"}, hits.part_of, hits=HITS, some=("a", "aa", "b", "z"))
        self.fails(NoName, {"name": "d"}, hits.part_of, hits=HITS, some=("c", "d", "e"))
        self.fails(NoName, {"name": "a"}, hits.part_of, hits=(), some=("a", "b"))

    def test_raised(self):
        self.gives((), hits.raised, hits=(), number=5)
        self.gives(HITS, hits.raised, hits=HITS, number=0)
        self.gives((("a", 7, ("s",)), ("b", 6, ("s",)), ("c", 5, ("t",))), hits.raised, hits=HITS, number=-3)
        self.gives((("far", 2 * FAR, WIDE[0][2]), ("low", 0, WIDE[1][2])), hits.raised, hits=WIDE, number=FAR)

    def test_what_is_returned_may_be_greater_and_is_taken_again(self):
        higher = hits.raised(hits.raised(WIDE, FAR), FAR)
        self.gives((("far", 4 * FAR, WIDE[0][2]), ("low", 2 * FAR, WIDE[1][2])), hits.raised, hits=higher, number=FAR)
        self.judges(hits.is_hits, [higher], [])

    def test_renamed_hits(self):
        self.gives(HITS, hits.renamed_hits, hits=HITS, pairs=())
        self.gives((), hits.renamed_hits, hits=(), pairs=())
        self.gives(HITS, hits.renamed_hits, hits=HITS, pairs=(("b", "b"),))
        self.gives((("aa", 9, ("s",)), ("b", 10, ("s",)), ("c", 8, ("t",))), hits.renamed_hits, hits=HITS,
                   pairs=(("b", "aa"), ("a", "b")))

    def test_all_are_renamed_at_once(self):
        self.gives((("a", 9, ("s",)), ("b", 10, ("s",)), ("c", 8, ("t",))), hits.renamed_hits, hits=HITS,
                   pairs=(("a", "b"), ("b", "a")))
        for pairs in ((("a", "b"), ("b", "c"), ("c", "a")), (("c", "a"), ("b", "c"), ("a", "b"))):
            self.gives((("a", 8, ("t",)), ("b", 10, ("s",)), ("c", 9, ("s",))), hits.renamed_hits, hits=HITS,
                       pairs=pairs)


if __name__ == "__main__":
    unittest.main()
