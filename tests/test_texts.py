"""Texts, written and read back: point [17]."""

import itertools
import unittest

from partpicks import errors, texts
from partpicks.errors import BadLine, BadText
from tests.helper import (FAR, HITS, LONG_WORDS, MANY, STEPS, TIES, WIDE, Case, is_exactly, small_hits, small_words,
                          words_of)

TWO = (("w", 9, ("s", "p")), ("x", -5, ("s", "q")), ("z", 0, ("t", "q")))
NAMES = {"-": (), "a": ("a",), "b a": ("b", "a"), "a a a": ("a", "a", "a"),
         "abcdefgh zzzzzzzz": ("abcdefgh", "zzzzzzzz")}
NO_NAMES = ("", " ", "a ", " a", "a  b", "A", "a b C", "abcdefghi", "a abcdefghi", "a-b", "--", "- -", "- a", "a -",
            "a, b", "a\nb", "a\n", "\n", "-\n", "a;", "/", "1", "a1", "a\tb", "a.b", "~", "( )")
HIT_TEXTS = {
    "-": (), "a 1 s": (("a", 1, ("s",)),), "a 10 s, b 9 s, c 8 t": HITS, "w 9 s p, x -5 s q, z 0 t q": TWO,
    f"far {FAR} s t u, low -{FAR} zzzzzzzz t s": WIDE, "m 5 s x, n 7 t x, o 5 s y, p 7 u y, q -3 t x": TIES,
    "zzzzzzzz -1 zzzzzzzz zzzzzzzz": (("zzzzzzzz", -1, ("zzzzzzzz", "zzzzzzzz")),),
    "a 0 a a a": (("a", 0, ("a", "a", "a")),),
    f"a {'9' * 390} s": (("a", 10 ** 390 - 1, ("s",)),),
}
# Each of these is wrong as a text of hits, and as a line.
NO_HITS = ("", " ", "a", "a 1", "1 a s", "a s", "a s 1", "a 1 s ", " a 1 s", "a  1 s", "a 1  s", "a 01 s", "a -0 s",
           "a 00 s", "a +1 s", "a 1_0 s", "a 1.0 s", "a -01 s", "a --1 s", "a - s", "a 1 s t u v", "A 1 s", "a 1 S",
           "a 1 abcdefghi", "abcdefghi 1 s", "a 1 s1", "a 1 -", "- 1 s", "a 1 s;", "a\t1 s", "a 1e3 s", "a 1- s",
           "a 1 s,", ",", "a,1,s", "/", "a 1 s\n", "\na 1 s", "a 1\ns", "a 0x1 s", "a  s", "--", "- -")
WORD_TEXTS = {
    "-": (), "top 1": (("top", 1),), "floor -5; near 0; each 0 2; top 4": (("floor", -5), ("near", 0), ("each", 0, 2),
                                                                          ("top", 4)),
    "floor 0": (("floor", 0),), "top 2; top 1; top 2": (("top", 2), ("top", 1), ("top", 2)),
    f"floor -{FAR}; near {FAR}; each 2 {FAR}": (("floor", -FAR), ("near", FAR), ("each", 2, FAR)),
    "each 0 1; each 2 1; each 1 1": (("each", 0, 1), ("each", 2, 1), ("each", 1, 1)),
    "; ".join(["floor 1"] * 40): (("floor", 1),) * 40, f"near {'1' + '0' * 390}": (("near", 10 ** 390),),
}
NO_WORDS = ("", " ", "top", "top 0", "top -1", "top 01", "top +1", "top 1 ", " top 1", "top  1", "top 1;", "top 1; ",
            "; top 1", "top 1;top 2", "top 1;  top 2", "top 1 ; top 2", "top 1, top 2", "Top 1", "near -1", "near -0",
            "near 00", "each 0 0", "each 3 1", "each -1 1", "each 1", "each 0 1 1", "each 0 1; each 0 2", "floor",
            "floor a", "floor 1 1", "floor -0", "floor 1.5", "top 1; -", "-; top 1", "--", "- ", "/", "top 1\n",
            "\ntop 1", "top\n1", "top 1; bottom 1", "1 top", "a", "each 0 1; top 0", "top 1; ; top 2", "each00 1",
            "top1", "top 1_0", "()")
PARTS_TEXTS = {
    "/": (), "-": ((),), "-; -": ((), ()), "a b; -": (("a", "b"), ()), "b a; a; -; zzzzzzzz": (("b", "a"), ("a",), (),
                                                                                               ("zzzzzzzz",)),
    "a": (("a",),), "a a; a a": (("a", "a"), ("a", "a")),
}
NO_PARTS = ("", " ", "//", "/; a", "a; /", "/ ", "a;", "a; ", "; a", "a;b", "a;  b", "a ; b", "-;", "-;-", "- -",
            "a, b", "A", "a b c; D", "a; ; b", "a\nb", "a; b\n", "\n", "abcdefghi", "a; -a", "1", "a; --")
TREE_TEXTS = {
    "0": 0, "(0 1)": (0, 1), "(1 0)": (1, 0), "(0 (2 1))": (0, (2, 1)), "((0 1) 2)": ((0, 1), 2),
    "((2 0) (1 3))": ((2, 0), (1, 3)), "(0 1 2 3 4 5)": (0, 1, 2, 3, 4, 5), "(((3 2) 1) 0)": (((3, 2), 1), 0),
    "(0 (1 (2 (3 4)) 5) 6)": (0, (1, (2, (3, 4)), 5), 6),
    "(10 1 2 3 4 5 6 7 8 9 0)": (10, 1, 2, 3, 4, 5, 6, 7, 8, 9, 0),
}
NO_TREES = ("", " ", "1", "-1", "00", "-0", "+0", "(0)", "()", "( )", "(0 0)", "(0 2)", "(1 2)", "(0 1", "0 1)", "0 1",
            "(0 1))", "((0 1)", "((0 1))", "(0 (1))", "((0) 1)", "(0 1 )", "( 0 1)", "(0  1)", " (0 1)", "(0 1) ",
            "(0, 1)", "(0 1)2", "(0 1)(2 3)", "(0 1) (2 3)", "(0 1) 2", "0)", "(0", ")0(", ")(", "0(", "(0 1)\n",
            "(0\n1)", "(a 0)", "-", "/", "(-1 0)", "(0 01)", "(0 -1)", "(0 ())", "(() 0 1)", "(0 1 1)", "(0 1(2 3))",
            "((0 1)(2 3))", "(0 ( 1 2))", "(0 (1 2) )", "0 ", "((0 1) 2", "(0 1) 2)",
            "(0 1 10000000000000000000000000000000)", "9" * 400, "(" * 400, "(" * 399 + "0", "0" + ")" * 399,
            "(0 " * 130, "\n".join(["(" * 400] * 60), "(0 " + "(" * 390 + "1")


def deep_tree(levels):
    """A tree with so many numbers, each but two in a tuple of its own, and its text."""
    tree, text = levels - 1, str(levels - 1)
    for place in reversed(range(levels - 1)):
        tree, text = (place, tree), f"({place} {text})"
    return tree, text


class ExampleTest(Case):

    def test_example(self):
        self.assertEqual(self.follows_example("texts.txt", words_of(texts, errors)), 5)


class WrittenAndReadTest(Case):

    def fits(self, rows, name, write, read):
        """Each of these is written so and read back so."""
        for text, value in rows.items():
            self.gives(text, write, **{name: value})
            self.gives(value, read, text=text)

    def has_none(self, rows, read):
        """Each of these texts is the text of nothing."""
        for text in rows:
            self.fails(BadText, {}, read, text=text)

    def test_names(self):
        self.fits(NAMES, "some", texts.names_text, texts.names_read)
        self.has_none(NO_NAMES, texts.names_read)

    def test_hits(self):
        self.fits(HIT_TEXTS, "hits", texts.hits_text, texts.hits_read)
        self.has_none(NO_HITS, texts.hits_read)
        # Not ascending, a name twice, unlike many labels, and wrong signs between two hits.
        self.has_none(("b 1 s, a 1 s", "a 1 s, a 2 s", "a 1 s, b 2", "a 1 s, b 1 s t", "a 1 s t, b 1 s", "a 1 s,b 1 s",
                       "a 1 s , b 1 s", "a 1 s,  b 1 s", "a 1 s; b 1 s", "a 1 s, -", "-, a 1 s", "a 1 s, ", ", a 1 s",
                       "a 1 s\nb 1 s", "a 1 s, b 1 s, b 1 s", "a 1 s, c 1 s, b 1 s", "a 1 s, b 01 s"), texts.hits_read)

    def test_words(self):
        self.fits(WORD_TEXTS, "word", texts.word_text, texts.word_read)
        self.has_none(NO_WORDS, texts.word_read)

    def test_parts(self):
        self.fits(PARTS_TEXTS, "parts", texts.parts_text, texts.parts_read)
        self.has_none(NO_PARTS, texts.parts_read)

    def test_trees(self):
        self.fits(TREE_TEXTS, "tree", texts.tree_text, texts.tree_read)
        self.has_none(NO_TREES, texts.tree_read)
        tree, text = deep_tree(74)
        self.assertLess(len(text), 400)
        self.fits({text: tree}, "tree", texts.tree_text, texts.tree_read)

    def test_all_small_values(self):
        for word in small_words(STEPS, 3) + list(LONG_WORDS):
            self.assertTrue(is_exactly(texts.word_read(texts.word_text(word)), word), word)
        for some in small_hits("ab", (-10, 0, 7), (("s",), ("t",))) + small_hits("xyz", (100, -1), (("s", "p"),)):
            self.assertTrue(is_exactly(texts.hits_read(texts.hits_text(some)), some), some)
            self.assertTrue(is_exactly(texts.lines_read(texts.lines_text(some)), some), some)
        for parts in itertools.product(((), ("a",), ("b", "a"), ("c", "c")), repeat=3):
            self.assertTrue(is_exactly(texts.parts_read(texts.parts_text(parts)), parts), parts)

    def test_what_is_read_is_what_is_written(self):
        # Of all short texts of these signs just those can be read that are the text of what they are read as.
        for size in range(6):
            for signs in itertools.product("a01- ;", repeat=size):
                self.reads("".join(signs), ((texts.names_text, texts.names_read), (texts.parts_text, texts.parts_read)))
            for signs in itertools.product("01() -", repeat=size):
                self.reads("".join(signs), ((texts.tree_text, texts.tree_read),))
            for signs in itertools.product("a1-0 ,", repeat=size):
                self.reads("".join(signs), ((texts.hits_text, texts.hits_read),))
        for number in ("".join(signs) for size in range(5) for signs in itertools.product("-019 ", repeat=size)):
            self.reads(f"floor {number}", ((texts.word_text, texts.word_read),))
            self.reads(f"each {number}", ((texts.word_text, texts.word_read),))
            self.reads(f"a {number} s", ((texts.hits_text, texts.hits_read),))

    def reads(self, text, pairs):
        """The text is read as something with just this text, or not at all."""
        for write, read in pairs:
            try:
                told = read(text)
            except BadText:
                continue
            self.assertEqual(write(told), text, told)


class NumbersTest(Case):

    def test_how_they_are_read(self):
        for number in [*range(-120, 121), 999, 1000, FAR, -FAR, FAR + 1, 10 ** 300, -(10 ** 300)]:
            self.assertEqual(texts.word_read(f"floor {number}"), (("floor", number),))
            self.assertEqual(texts.hits_read(f"a {number} s"), (("a", number, ("s",)),))

    def test_very_long_ones(self):
        # Longer than Python itself would read them.
        digits = "1" + "0" * 5000
        self.assertEqual(texts.word_read(f"near {digits}"), (("near", 10 ** 5000),))
        with self.assertRaises(BadText):
            texts.word_read(f"near -{digits}")
        with self.assertRaises(BadText):
            texts.tree_read(digits)


class LinesTest(Case):

    def test_ordinary_ones(self):
        for some, text in (
            ((), ""), (HITS[:1], "a 10 s"), (HITS, "a 10 s\nb 9 s\nc 8 t"), (TWO, "w 9 s p\nx -5 s q\nz 0 t q"),
            (WIDE, f"far {FAR} s t u\nlow -{FAR} zzzzzzzz t s"),
        ):
            self.gives(text, texts.lines_text, hits=some)
            self.gives(some, texts.lines_read, text=text)

    def test_twelve_and_more(self):
        for some in (MANY[:12], MANY):
            text = "\n".join(f"{name} {score} {labels[0]}" for name, score, labels in some)
            self.assertEqual(texts.lines_text(some), text)
            self.assertEqual(texts.lines_read(text), some)

    def test_a_line_that_is_not_so_written(self):
        for line in NO_HITS:
            if line and "\n" not in line:
                self.fails(BadLine, {"number": 0}, texts.lines_read, text=line)
                self.fails(BadLine, {"number": 2}, texts.lines_read, text=f"a 1 s\nb -2 t\n{line}")
                self.fails(BadLine, {"number": 1}, texts.lines_read, text=f"a 1 s\n{line}\nc 3 s\n{line}")

    def test_a_line_that_cannot_stand_there(self):
        for text, number in (
            ("a 1 s\nb 2", 1), ("a 1 s\na 2 s", 1), ("b 1 s\na 1 s", 1), ("a 1 s\nb 2 s t", 1), ("a 1 s t\nb 2 s", 1),
            ("a 1 s\nb 1 s\nb 1 s\na 1 s", 2), ("a 1 s\nc 1 s\nb 1 s", 2), ("a 1 s\n", 1), ("\n", 0), ("\na 1 s", 0),
            ("a 1 s\n\nb 1 s", 1), ("a 1 s\nb 1 s\n", 2), ("-", 0), ("a 1 s, b 2 s", 0), ("a 1 s\r\nb 1 s", 0),
            (" ", 0),
            ("b 1 s\nx\na 1 s", 1), ("b 1 s\na 1 s\nx", 1), ("\n\n", 0),
        ):
            self.fails(BadLine, {"number": number}, texts.lines_read, text=text)

    def test_sixty_lines(self):
        rows = [f"{one}{other} {at} s" for at, (one, other) in enumerate(itertools.product("abcdefgh", repeat=2))][:60]
        self.assertEqual(len(texts.lines_read("\n".join(rows))), 60)
        self.fails(BadLine, {"number": 59}, texts.lines_read, text="\n".join(rows[:59] + rows[:1]))


if __name__ == "__main__":
    unittest.main()
