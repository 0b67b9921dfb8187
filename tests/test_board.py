"""Boards: point [16]."""

import copy
import inspect
import random
import unittest

from partpicks import errors, hits, parted, steps
from partpicks import board as boards
from partpicks.board import Board
from partpicks.errors import NoName, NoNumber, NothingDone, Twice
from tests.helper import FAR, HITS, TIES, Case, is_exactly, less, lists_all, picks, picks_parted, ways, words_of

EARLY, LATE = (("top", 2), ("each", 0, 1)), (("each", 0, 1), ("top", 2))
BOTH = (("each", 0, 1), ("each", 1, 1))
# Words for hits of two kinds.
WORDS = (EARLY, LATE, BOTH, BOTH[::-1], (), (("near", 2), ("top", 4)), (("floor", 3), ("each", 1, 2)),
         (("top", 4), ("near", 1), ("each", 1, 1), ("each", 0, 2)), (("top", 3), ("top", 5)), (("floor", FAR),))
METHODS = {
    "word": "", "hits": "", "parts": "", "picked": "", "shown": "", "lost": "", "come": "name score labels machine",
    "go": "name", "move": "name machine", "change": "word", "gather": "", "undo": "", "deeds": "", "twin": "",
}


class Beside:
    """What a board must be like, kept as a list of its states: the latest one stands last."""

    def __init__(self, word, machines):
        self.states = [(word, {}, machines)]

    def word(self):
        return self.states[-1][0]

    def hits(self):
        return tuple(sorted((name, score, labels) for name, (score, labels, _) in self.states[-1][1].items()))

    def parts(self):
        _, rows, machines = self.states[-1]
        return tuple(tuple(sorted(name for name in rows if rows[name][2] == at)) for at in range(machines))

    def shown(self):
        return picks_parted(self.hits(), self.parts(), self.word())

    def wrong(self, name, machine, there):
        """The error that a deed with this name and this machine raises, and its attributes; None if there is none."""
        _, rows, machines = self.states[-1]
        if (name in rows) is not there:
            return (NoName if there else Twice), {"name": name}
        if machine not in (None, *range(machines)):
            return NoNumber, {"number": machine}
        return None

    def turn(self, word, rows):
        self.states.append((word, rows, self.states[-1][2]))

    def come(self, name, score, labels, machine):
        word, rows, _ = self.states[-1]
        self.turn(word, {**rows, name: (score, tuple(labels), machine)})
        return name in self.shown()

    def go(self, name):
        word, rows, _ = self.states[-1]
        ahead = self.shown()
        self.turn(word, {other: row for other, row in rows.items() if other != name})
        return less(self.shown(), ahead)

    def move(self, name, machine):
        word, rows, _ = self.states[-1]
        score, labels, ahead = rows[name]
        self.turn(word, {**rows, name: (score, labels, machine)})
        return ahead

    def change(self, word):
        ahead = self.word()
        self.turn(word, self.states[-1][1])
        return ahead

    def gather(self):
        word, rows, _ = self.states[-1]
        self.turn(word, {name: (score, labels, 0) for name, (score, labels, _) in rows.items()})


class BoardCase(Case):

    def is_like(self, board, beside):
        """The board tells all that it must."""
        some, parts, word = beside.hits(), beside.parts(), beside.word()
        picked, shown = picks(some, word), picks_parted(some, parts, word)
        for method, expected in (
            ("word", word), ("hits", some), ("parts", parts), ("picked", picked), ("shown", shown),
            ("lost", less(picked, shown)), ("deeds", len(beside.states) - 1), ("__len__", len(some)),
        ):
            told = getattr(board, method)()
            self.assertTrue(is_exactly(expected, told), (method, expected, told, beside.states))
        self.assertEqual(len(board), len(some))
        self.assertIs(board.twin() == board, True)
        self.assertTrue(hits.is_hits(some) and hits.is_parts(some, parts))
        self.assertEqual((board.picked(), board.shown()),
                         (steps.picked(some, word), parted.picked_parted(some, parts, word)))

    def told_by_twins(self, board, deed, arguments):
        """The set of what the deed tells, done on twins in all ways to call it, and these twins."""
        told, twins = [], []
        for way in ways(arguments):
            for places, names in ((tuple(way.values()), {}), ((), way), ((), dict(reversed(way.items())))):
                before = copy.deepcopy([*places, *names.values()])
                twin = board.twin()
                told.append(getattr(twin, deed)(*places, **names))
                self.assertTrue(is_exactly(before, [*places, *names.values()]), (deed, before))
                twins.append(twin)
        return told, twins

    def does(self, board, beside, deed, **arguments):
        """The board does the deed as it must, however it is called."""
        expected = getattr(beside, deed)(**arguments)
        told, twins = self.told_by_twins(board, deed, arguments)
        told.append(getattr(board, deed)(**lists_all(arguments) if deed == "change" else arguments))
        for one in told:
            self.assertTrue(is_exactly(expected, one), (deed, arguments, expected, one))
        for twin in twins:
            self.assertTrue(twin == board and twin.deeds() == board.deeds(), (deed, arguments))
        self.is_like(board, beside)

    def refuses(self, board, beside, error, attributes, deed, **arguments):
        """The board raises this error and remains unchanged."""
        for way in ways(arguments):
            for places, names in ((tuple(way.values()), {}), ((), way)):
                with self.assertRaises((LookupError, ValueError)) as caught:
                    getattr(board, deed)(*places, **names)
                self.is_error(error, attributes, caught.exception, (deed, arguments))
        self.is_like(board, beside)

    def tries(self, board, beside, deed, there, **arguments):
        """The board does the deed or refuses it, as it must."""
        wrong = beside.wrong(arguments["name"], arguments.get("machine"), there)
        if wrong is None:
            self.does(board, beside, deed, **arguments)
        else:
            self.refuses(board, beside, *wrong, deed, **arguments)

    def takes_back(self, board, beside):
        """The board takes back its latest deed."""
        if len(beside.states) == 1:
            self.refuses(board, beside, NothingDone, {}, "undo")
        else:
            beside.states.pop()
            self.assertIsNone(board.undo())
            self.is_like(board, beside)


class ExampleTest(Case):

    def test_example(self):
        self.assertEqual(self.follows_example("board.txt", words_of(boards, errors)), 5)


class MethodsTest(unittest.TestCase):

    def test_each_one_stands_in_the_class(self):
        for name, arguments in METHODS.items():
            function = vars(Board)[name]
            self.assertTrue(inspect.isfunction(function), name)
            self.assertEqual(" ".join(inspect.signature(function).parameters), ("self " + arguments).strip(), name)
        self.assertEqual(list(inspect.signature(Board).parameters), ["word", "machines"])
        for name in ("__init__", "__len__", "__eq__"):
            self.assertIn(name, vars(Board))
        self.assertEqual(Board.__module__, "partpicks.board")


class NewBoardTest(BoardCase):

    def test_there_are_no_hits(self):
        for machines in range(1, 7):
            for word in WORDS:
                for board in (Board(word, machines), Board(word=lists_all(word), machines=machines)):
                    self.is_like(board, Beside(word, machines))
                    self.refuses(board, Beside(word, machines), NothingDone, {}, "undo")

    def test_the_word_is_copied(self):
        word = [["top", 2], ["each", 0, 1]]
        board = Board(word, 2)
        word[0][1] = 7
        word.pop()
        self.assertTrue(is_exactly(board.word(), EARLY))

    def test_what_is_handed_in_is_copied(self):
        board, labels, word = Board((), 1), ["s"], [["each", 0, 1]]
        board.come("a", 1, labels, 0)
        board.change(word)
        labels[0], word[0][2] = "t", 9
        self.assertTrue(is_exactly((board.hits(), board.word()), ((("a", 1, ("s",)),), (("each", 0, 1),))))

    def test_it_is_not_iterated_over(self):
        board = Board(EARLY, 2)
        for name in "ab":
            for function in (iter, list, tuple, sorted, reversed, enumerate):
                with self.assertRaises(TypeError, msg=function):
                    function(board)
            with self.assertRaises(TypeError):
                for _ in board:
                    pass
            with self.assertRaises(TypeError):
                "a" in board
            board.come(name, 1, ("s",), 0)


class EqualTest(Case):

    def are(self, equal, one, other):
        """Both are equal, or both are not, either way round."""
        for here, there in ((one, other), (other, one)):
            self.assertIs(here == there, equal)
            self.assertIs(here != there, not equal)

    def test_words_hits_and_parts_count(self):
        one, other = Board(EARLY, 2), Board(EARLY, 2)
        self.are(True, one, other)
        self.are(False, one, Board(EARLY, 3))
        self.are(False, one, Board(LATE, 2))
        one.come("a", 1, ("s",), 0)
        self.are(False, one, other)
        for score, labels, machine, equal in ((1, ("s",), 1, False), (2, ("s",), 0, False), (1, ("t",), 0, False),
                                              (1, ("s",), 0, True)):
            other.come("a", score, labels, machine)
            self.are(equal, one, other)
            other.undo()
        other.come("b", 1, ("s",), 0)
        self.are(False, one, other)

    def test_deeds_do_not_count(self):
        one, other = Board(EARLY, 2), Board(LATE, 2)
        other.change(EARLY)
        self.are(True, one, other)
        other.gather()
        self.are(True, one, other)
        self.assertEqual((one.deeds(), other.deeds()), (0, 2))

    def test_it_equals_nothing_else(self):
        board = Board((), 1)
        for thing in (None, 0, 1, True, False, "", (), [], ((), (), ((),)), [(), (), ((),)], {}, object(), Board,
                      board.hits, Beside((), 1)):
            self.assertIs(board == thing, False)
            self.assertIs(board != thing, True)
        self.are(True, board, board)


class DeedsTest(BoardCase):

    def filled(self, word, some, machines):
        """A board with these hits, one machine after the other, and what it must be like."""
        board, beside = Board(word, machines), Beside(word, machines)
        for at, (name, score, labels) in enumerate(some):
            self.does(board, beside, "come", name=name, score=score, labels=labels, machine=at % machines)
        return board, beside

    def test_each_deed_and_all_of_it_taken_back(self):
        for word, some, machines in ((EARLY, HITS, 2), (LATE, HITS, 1), (BOTH, TIES, 3), ((), TIES, 6)):
            board, beside = self.filled(word, some, machines)
            names = [hit[0] for hit in some]
            self.does(board, beside, "move", name=names[1], machine=machines - 1)
            self.does(board, beside, "move", name=names[1], machine=machines - 1)
            self.does(board, beside, "change", word=LATE)
            self.does(board, beside, "change", word=LATE)
            self.does(board, beside, "go", name=names[0])
            self.does(board, beside, "gather")
            self.does(board, beside, "gather")
            self.does(board, beside, "come", name=names[0], score=-FAR, labels=some[0][2], machine=0)
            while len(beside.states) > 1:
                self.takes_back(board, beside)
            self.takes_back(board, beside)

    def test_what_changes_nothing_is_a_deed(self):
        board, beside = self.filled(EARLY, (), 2)
        for times in range(3):
            self.does(board, beside, "gather")
            self.does(board, beside, "change", word=EARLY)
        self.assertEqual(board.deeds(), 6)

    def test_deeds_behind_what_was_taken_back(self):
        board, beside = self.filled(EARLY, HITS, 3)
        self.takes_back(board, beside)
        self.takes_back(board, beside)
        self.does(board, beside, "come", name="z", score=11, labels=("s",), machine=2)
        self.takes_back(board, beside)
        self.does(board, beside, "go", name="a")
        self.takes_back(board, beside)
        self.takes_back(board, beside)
        self.takes_back(board, beside)

    def test_wrong_ones_in_their_order(self):
        board, beside = self.filled(EARLY, HITS, 2)
        for machine in (0, 1, 2, -1, FAR, -FAR, 11):
            self.refuses(board, beside, Twice, {"name": "b"}, "come", name="b", score=1, labels=("t",), machine=machine)
            self.refuses(board, beside, NoName, {"name": "q"}, "move", name="q", machine=machine)
        for machine in (2, -1, 6, FAR, -FAR):
            told = {"number": machine}
            self.refuses(board, beside, NoNumber, told, "come", name="q", score=1, labels=("t",), machine=machine)
            self.refuses(board, beside, NoNumber, told, "move", name="c", machine=machine)
        self.refuses(board, beside, NoName, {"name": "aa"}, "go", name="aa")

    def test_one_machine(self):
        board, beside = self.filled(BOTH, TIES, 1)
        self.assertEqual((board.shown(), board.lost()), (board.picked(), ()))
        self.does(board, beside, "move", name="m", machine=0)
        self.does(board, beside, "gather")
        self.does(board, beside, "go", name="n")
        self.refuses(board, beside, NoNumber, {"number": 1}, "move", name="m", machine=1)

    def test_all_that_go(self):
        board, beside = self.filled(LATE, TIES, 2)
        for name in "qomnp":
            self.does(board, beside, "go", name=name)
        self.assertEqual((board.hits(), board.parts()), ((), ((), ())))
        # No hit is there: so labels may be as many as it pleases.
        self.does(board, beside, "come", name="q", score=1, labels=("u", "v", "w"), machine=1)

    def test_lost_and_come_in(self):
        board = Board(BOTH, 2)
        for name, score, labels, machine in (("w", 9, ("s", "p"), 0), ("x", 5, ("s", "q"), 1), ("z", 3, ("t", "q"), 1)):
            board.come(name, score, labels, machine)
        self.assertEqual((board.picked(), board.shown(), board.lost()), (("w", "z"), ("w",), ("z",)))
        self.assertEqual(board.go("x"), ("z",))
        self.assertEqual(board.lost(), ())

    def test_twins(self):
        board, beside = self.filled(EARLY, HITS, 2)
        twin, other = board.twin(), Beside(EARLY, 2)
        other.states = list(beside.states)
        self.assertIsNot(twin, board)
        self.does(twin, other, "go", name="a")
        self.is_like(board, beside)
        self.takes_back(twin, other)
        self.takes_back(twin, other)
        self.is_like(board, beside)
        self.does(board, beside, "change", word=())
        self.takes_back(board, beside)
        self.takes_back(board, beside)
        self.assertTrue(board == twin and board is not twin)
        self.does(board, beside, "gather")
        self.is_like(twin, other)
        while len(other.states) > 1:
            self.takes_back(twin, other)
        self.is_like(board, beside)
        self.takes_back(twin, other)

    def test_numbers_at_the_bounds(self):
        board, beside = self.filled((("near", FAR), ("floor", -FAR)), (), 6)
        for at, (name, score) in enumerate((("far", FAR), ("low", -FAR), ("mid", 0))):
            self.does(board, beside, "come", name=name, score=score, labels=("s",), machine=at)
        self.does(board, beside, "go", name="far")

    def test_rows_of_sixty_deeds(self):
        chance = random.Random(16)
        names = [one + "bcdefgh" for one in "mnopqrstuvwx"]
        for machines in (1, 2, 3, 6):
            word = chance.choice(WORDS)
            board, beside = Board(word, machines), Beside(word, machines)
            for _ in range(60):
                name, machine = chance.choice(names), chance.randrange(-1, machines + 1)
                deed = chance.choice(("come",) * 4 + ("move", "go", "change", "gather", "undo"))
                if deed == "come":
                    labels = (chance.choice("stu"), chance.choice("pq"))
                    self.tries(board, beside, deed, False, name=name, score=chance.randrange(9), labels=labels,
                               machine=machine)
                elif deed == "move":
                    self.tries(board, beside, deed, True, name=name, machine=machine)
                elif deed == "go":
                    self.tries(board, beside, deed, True, name=name)
                elif deed == "change":
                    self.does(board, beside, deed, word=chance.choice(WORDS))
                elif deed == "gather":
                    self.does(board, beside, deed)
                else:
                    self.takes_back(board, beside)


if __name__ == "__main__":
    unittest.main()
