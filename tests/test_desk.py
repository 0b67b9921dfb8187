"""The desk: point [18]."""

import random
import unittest

from partpicks import desk, errors, parted, steps, texts, words
from partpicks.board import Board
from partpicks.errors import BadLine, NoName, NoNumber, NothingDone, Twice
from tests.helper import FAR, HITS, ODD, TIES, Case, deep, words_of

EARLY, LATE = (("top", 2), ("each", 0, 1)), (("each", 0, 1), ("top", 2))
BOTH = (("each", 0, 1), ("each", 1, 1))
BARE = ("gather", "undo", "picked", "shown", "lost", "page", "hits", "parts", "word", "reduced", "parted", "right",
        "many", "deeds")
COMING = ("come a 10 0 s", "come b 9 0 s", "come c 8 1 t")
RIGHT = (
    *BARE, *COMING, "come abcdefgh -1 11 s t zzzzzzzz", "come a 0 0 a a", f"come a {FAR} 0 s", f"come a -{FAR} 10 s",
    "go a", "go zzzzzzzz", "goes a", "needed a", "goes abcdefgh", "needed word", "go go", "go come", "move a 0",
    "move a 11", "move move 7", "change -", "change top 1", "change each 0 1; top 2",
    f"change floor -{FAR}; near {FAR}; each 2 {FAR}", "change floor 0; near 0", "change " + "; ".join(["top 1"] * 8),
    "change " + "; ".join(["floor 1"] * 8), "come come 1 1 come", f"change floor {FAR}; top {FAR}",
)
WRONG = (
    "", " ", "\n", "walk", "Picked", "picked ", " picked", "picked a", "picked  ", "gather 0", "undo 1", "word -",
    "page\n", "hit", "come", "come ", "come a", "come a 10", "come a 10 0", "come a 10 0 ", "come  a 10 0 s",
    "come a  10 0 s", "come a 10 0  s", "come a 10 0 s ", " come a 10 0 s", "come a 10 0 s t u v", "come A 10 0 s",
    "come a 10 0 S", "come a 10 12 s", "come a 10 -1 s", "come a 10 -0 s", "come a -0 0 s", "come a 010 0 s",
    "come a 10 00 s", "come a 10 01 s", "come a +1 0 s", "come a 1.0 0 s", "come a s 0 s", "come a 10 s 0",
    "come a 1 0 -", "come abcdefghi 1 0 s", "come a 1 0 abcdefghi", "come 1 1 0 s", "come - 1 0 s",
    f"come a {FAR + 1} 0 s", f"come a -{FAR + 1} 0 s", f"come a {FAR}0 0 s", "come a 1_0 0 s", "come a 1 0 s,t",
    "come,a,1,0,s", "come a 10 100000000000000000000 s", "go", "go ", "go a b", "go A", "go  a", "go a ", "go 1",
    "go -", "go abcdefghi", "goes", "goes a 1", "goes A", "goes ", "needed", "needed a b", "needed 1", "needed ",
    "move", "move a", "move a ", "move a 12", "move a -1", "move a -0", "move a 01", "move a 1 1", "move A 1",
    "Move a 1", "move 1 a", "move  a 1", "move a  1", "move a 1 ", "move a b", "move a 1.5", f"move a {FAR}", "change",
    "change ", "change top 0", "change top", "change  top 1", "change top 1 ", "change top 1;", "change top  1",
    "change top 1;top 2", "change top 1, top 2", "change each 3 1", "change near -1", "change -0",
    "change each 0 1; each 0 2", f"change top {FAR + 1}", f"change floor -{FAR + 1}", f"change near {FAR}0",
    "change /", "change a", "change " + "; ".join(["top 1"] * 9), "change - ", "change -; top 1", "change top 01",
    f"change each 0 {FAR + 1}", "change top 1\n", "come a 10 0 s\npicked", "picked\npicked", "\npicked", "picked\t",
    "come a\t10 0 s", "gatherundo", "shown?", "quit", "PICKED", "come a " + "1" * 5000 + " 0 s",
    "change top " + "1" * 5000, "move a " + "1" * 5000, "come a -" + "9" * 5000 + " 0 s", "come a 1 0 " + "s " * 3000,
    "change " + "top 1; " * 3000 + "top 1", "a" * 10000, "go " + "a" * 10000, "come a \u0661 0 s", "go \u00e4",
    "come a 1 0 s\u00a0", "move a \u00b2",
)


def oracle_reply(board, line):
    """The reply to a request by the words of the document, from the board and the functions that it names."""
    verb, *rest = line.split(" ")
    yes_or_no = {True: "yes", False: "no"}
    some, word = board.hits(), board.word()
    if verb == "come":
        return yes_or_no[board.come(rest[0], int(rest[1]), tuple(rest[3:]), int(rest[2]))]
    if verb == "go":
        return " ".join(board.go(rest[0])) or "-"
    if verb == "move":
        return str(board.move(rest[0], int(rest[1])))
    if verb == "change":
        return texts.word_text(board.change(texts.word_read(line[len("change "):])))
    if verb in ("gather", "undo"):
        getattr(board, verb)()
        return "done"
    place, score = (steps.goes_at, steps.score_needed)
    asked = {
        "picked": lambda: " ".join(board.picked()) or "-", "shown": lambda: " ".join(board.shown()) or "-",
        "lost": lambda: " ".join(board.lost()) or "-", "page": lambda: " ".join(steps.page(some, word)) or "-",
        "hits": lambda: texts.hits_text(some), "parts": lambda: texts.parts_text(board.parts()),
        "word": lambda: texts.word_text(word), "reduced": lambda: texts.word_text(words.reduced(word)),
        "parted": lambda: yes_or_no[parted.may_be_parted(word)],
        "right": lambda: yes_or_no[board.shown() == board.picked()], "many": lambda: str(len(some)),
        "deeds": lambda: str(board.deeds()), "goes": lambda: str(place(some, word, rest[0])).replace("None", "-"),
        "needed": lambda: str(score(some, word, rest[0])).replace("None", "-"),
    }
    return asked[verb]()


def oracle_replies(word, machines, lines):
    """The list of the replies."""
    board, told = Board(word, machines), []
    for line in lines:
        try:
            told.append(oracle_reply(board, line))
        except (NoName, NoNumber, NothingDone, Twice) as error:
            told.append(f"refused {type(error).__name__}")
    return told


class ExampleTest(Case):

    def test_example(self):
        self.assertEqual(self.follows_example("desk.txt", words_of(desk, errors)), 5)


class IsRequestTest(Case):

    def test_right_ones(self):
        self.judges(desk.is_request, RIGHT, [])

    def test_wrong_ones(self):
        self.judges(desk.is_request, [], [*WRONG, *ODD, deep(12), ["picked"], ("picked",), [("go", "a")], 12, None, ()])

    def test_each_number_of_a_machine(self):
        for number in range(-3, 40):
            self.assertIs(desk.is_request(f"come a 1 {number} s"), 0 <= number <= 11, number)
            self.assertIs(desk.is_request(f"move a {number}"), 0 <= number <= 11, number)


class RepliesTest(Case):

    def replied(self, expected, word, machines, lines):
        """The replies to these lines are just these, also by the words of the document."""
        self.assertEqual(oracle_replies(word, machines, lines), expected)
        self.gives(expected, desk.replies, word=word, machines=machines, text="\n".join(lines))

    def test_no_lines(self):
        for word, machines in (((), 1), (EARLY, 6), (LATE, 2)):
            self.gives([], desk.replies, word=word, machines=machines, text="")

    def test_nothing_there(self):
        self.replied(["-", "-", "-", "-", "-", "-; -; -", "-", "-", "yes", "yes", "0", "0", "done", "refused NoName"],
                     (), 3,
                     ["picked", "shown", "lost", "page", "hits", "parts", "word", "reduced", "parted", "right", "many",
                      "deeds", "gather", "go a"])
        self.replied(["-", "top 3; top 2; each 0 1", "top 2; each 0 1", "no", "yes"], (("top", 3),) + EARLY, 1,
                     ["hits", "word", "reduced", "parted", "right"])

    def test_each_question(self):
        self.replied(["yes", "no", "yes", "a", "a c", "-", "a", "a 10 s, b 9 s, c 8 t", "a b; c", "top 2; each 0 1",
                      "top 2; each 0 1", "no", "no", "3", "3", "-", "1", "0", "9", "11", "10"], EARLY, 2,
                     [*COMING, "picked", "shown", "lost", "page", "hits", "parts", "word", "reduced", "parted",
                      "right", "many",
                      "deeds", "goes a", "goes b", "goes c", "needed a", "needed b", "needed c"])

    def test_each_deed(self):
        self.replied(["yes", "no", "yes", "0", "1", "a", "top 2; each 0 1", "each 0 1; top 2", "-", "-", "b c", "done",
                      "b c; -", "done", "-; b c", "8"], EARLY, 2,
                     [*COMING, "move b 1", "move c 1", "shown", "change each 0 1; top 2", "change -", "word", "go a",
                      "page", "gather", "parts", "undo", "parts", "deeds"])

    def test_undo_to_the_end(self):
        self.replied(["yes", "yes", "done", "a b; -", "3", "done", "a; b", "done", "a; -", "done", "-; -",
                      "refused NothingDone", "0"], (), 2,
                     ["come a 1 0 s", "come b 1 1 s", "gather", "parts", "deeds", "undo", "parts", "undo", "parts",
                      "undo", "parts", "undo", "deeds"])

    def test_refused_ones_change_nothing(self):
        self.replied(["refused NothingDone", "refused NoName", "refused NoName", "refused NoName", "refused NoName",
                      "yes",
                      "refused Twice", "refused Twice", "refused NoNumber", "refused NoNumber", "refused NoName",
                      "refused NoName", "a 1 s", "a; -", "1", "1"], (), 2,
                     ["undo", "go a", "move a 0", "goes a", "needed a", "come a 1 0 s", "come a 2 1 t", "come a 2 9 t",
                      "come b 2 2 s", "move a 2", "move b 2", "go b", "hits", "parts", "deeds", "many"])

    def test_best_first_on_the_page(self):
        self.replied(["yes", "yes", "yes", "a b c", "b c a", "a b c"], (), 2,
                     ["come a 1 0 s", "come c 5 1 s", "come b 5 0 s", "picked", "page", "shown"])

    def test_numbers_at_the_bounds(self):
        self.replied(["yes", "no", f"far {FAR} s t u, low -{FAR} s t v", f"near {FAR}", "far", "0", "0", f"near {FAR}",
                      "far low", "-", f"-{FAR}"], (("near", FAR),), 1,
                     [f"come far {FAR} 0 s t u", f"come low -{FAR} 0 s t v", "hits", "word", "picked", "goes low",
                      "needed low", f"change floor -{FAR}; each 2 {FAR}", "picked", "goes low", "needed low"])

    def test_lost_hits(self):
        self.replied(["yes", "no", "no", "w z", "w", "z", "no", "no", "z", "-"], BOTH, 2,
                     ["come w 9 0 s p", "come x 5 1 s q", "come z 3 1 t q", "picked", "shown", "lost", "right",
                      "parted", "go x",
                      "lost"])


class BadLineTest(Case):

    def test_the_first_wrong_line(self):
        for line in WRONG:
            if "\n" not in line:
                if line:
                    self.fails(BadLine, {"number": 0}, desk.replies, word=(), machines=1, text=line)
                self.fails(BadLine, {"number": 1}, desk.replies, word=EARLY, machines=3,
                           text=f"many\n{line}\nwalk\nmany")
        for text, number in (("many\n", 1), ("\n", 0), ("\nmany", 0), ("many\n\nmany", 1), ("many\nmany\nmany\n", 3),
                             ("many\r\nmany", 0), ("\n\n", 0), (" ", 0), ("walk\nrun", 0)):
            self.fails(BadLine, {"number": number}, desk.replies, word=LATE, machines=2, text=text)

    def test_it_comes_ahead_of_all_that_is_refused(self):
        for lines, number in ((["undo", "go a", "come a 1 0 s", "come a 1 9 s", "walk", "walk"], 4),
                              (["go q", "go Q"], 1),
                              (["come a 1 0 s"] * 59 + ["come a 1 12 s"], 59)):
            self.fails(BadLine, {"number": number}, desk.replies, word=(), machines=1, text="\n".join(lines))


class RowsTest(Case):

    def test_rows_of_sixty_lines(self):
        chance = random.Random(18)
        names = "abcdefghijkl"
        some_words = (EARLY, LATE, BOTH, (), (("near", 2), ("top", 4)), (("floor", 3), ("each", 1, 2), ("top", 9)))
        for machines in (1, 2, 3, 6) * 3:
            word, lines = chance.choice(some_words), []
            for _ in range(60):
                name, machine = chance.choice(names), chance.randrange(machines + 1)
                labels = f"{chance.choice('stu')} {chance.choice('pq')}"
                lines.append(chance.choice((
                    f"come {name} {chance.randrange(-3, 9)} {machine} {labels}", f"come {name} 4 {machine} {labels}",
                    f"go {name}", f"move {name} {machine}", f"change {texts.word_text(chance.choice(some_words))}",
                    f"goes {name}", f"needed {name}", "undo", chance.choice(BARE), chance.choice(BARE))))
            told = desk.replies(word, machines, "\n".join(lines))
            self.assertEqual(told, oracle_replies(word, machines, lines), (word, machines, lines))

    def test_what_is_told_of_told_hits(self):
        for some, word in ((HITS, EARLY), (HITS, LATE), (TIES, BOTH), (TIES, (("near", 2), ("each", 1, 1)))):
            coming = [f"come {name} {score} {at % 2} {' '.join(labels)}" for at,
                      (name, score, labels) in enumerate(some)]
            asked = [*BARE[2:], *[f"{verb} {hit[0]}" for verb in ("goes", "needed") for hit in some]]
            told = desk.replies(word, 2, "\n".join(coming + asked))
            self.assertEqual(told, oracle_replies(word, 2, coming + asked))
            told = dict(zip(asked, told[len(some):]))
            self.assertEqual(told["picked"], " ".join(steps.picked(some, word)))
            self.assertEqual(told["page"], " ".join(steps.page(some, word)))
            self.assertEqual(told["hits"], texts.hits_text(some))
            self.assertEqual((told["many"], told["deeds"]), (str(len(some)), str(len(some))))


if __name__ == "__main__":
    unittest.main()
