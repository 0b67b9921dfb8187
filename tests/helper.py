"""What the test files share: samples, picking by the very words of the document, and calls in all ways."""

import ast
import copy
import itertools
import pathlib
import unittest

EXAMPLES = pathlib.Path(__file__).parent / "examples"

HITS = (("a", 10, ("s",)), ("b", 9, ("s",)), ("c", 8, ("t",)))
# Two pairs of hits with the same score; names and scores run in unlike orders.
TIES = (("m", 5, ("s", "x")), ("n", 7, ("t", "x")), ("o", 5, ("s", "y")), ("p", 7, ("u", "y")), ("q", -3, ("t", "x")))
FAR = 10 ** 40
WIDE = (("far", FAR, ("s", "t", "u")), ("low", -FAR, ("zzzzzzzz", "t", "s")))
MANY = tuple((chr(97 + at) * 8, at, ("s",)) for at in range(26))


def deep(levels):
    """A tuple in a tuple and so on."""
    thing = ()
    for _ in range(levels - 1):
        thing = (thing,)
    return thing


# Things of all kinds that are neither hits nor parts nor steps nor words.
ODD = (None, True, False, 0, 1, -5, FAR, "", "a", "abc", "top", [], [()], (0,), (True,), ("a",), (("a",),), ("top",),
       (None, None, None), deep(12), (("a", "b", "c"), ["d"], None, (True, (False, "x"))), ((((),),),))
# Steps for words of which all small ones are gone through.
STEPS = (("floor", 1), ("near", 0), ("near", 1), ("each", 0, 1), ("each", 0, 2), ("each", 1, 1), ("each", 1, 2),
         ("top", 1), ("top", 2), ("top", 3))
# Tops and eachs alone, of all kinds.
CAPS = (("top", 1), ("top", 2), ("top", 3), ("each", 0, 1), ("each", 0, 2), ("each", 0, 3), ("each", 1, 1),
        ("each", 1, 2), ("each", 2, 1))

# Words of up to eight steps, with eachs of three kinds, numbers at the bounds and steps that do nothing.
LONG_WORDS = (
    (("floor", 3), ("near", 0), ("each", 0, 4), ("top", 5), ("each", 1, 3), ("top", 4), ("each", 2, 2), ("top", 3)),
    (("top", 5), ("each", 2, 4), ("near", 2), ("top", 4), ("each", 0, 1), ("floor", FAR), ("top", 3), ("each", 1, 2)),
    (("each", 1, 5), ("each", 0, 5), ("top", 5), ("floor", -FAR), ("near", FAR), ("each", 2, 4), ("top", 5),
     ("near", 0)),
    (("near", FAR), ("each", 2, 5), ("each", 1, 5), ("each", 0, 5), ("floor", FAR), ("floor", -FAR), ("top", 6)),
    (("each", 0, 1), ("each", 1, 1), ("top", 2), ("each", 2, 1), ("floor", -5), ("near", 1), ("top", 9), ("top", 5)),
    (("each", 1, 5), ("each", 2, 1), ("top", 5), ("top", 4), ("top", 3), ("near", 0), ("each", 0, 1), ("top", 2)),
    (("each", 2, 2), ("each", 0, 5), ("near", 7), ("near", 3), ("each", 1, 4)),
    (("top", 5), ("each", 1, 5), ("each", 2, 4), ("each", 0, 3)),
    (("top", 2), ("each", 2, 1)), (("each", 1, 2), ("top", 5), ("each", 0, 4)), (("each", 2, 4), ("each", 1, 1)),
    (("each", 0, 5), ("near", 2), ("top", 5), ("each", 1, 5), ("top", 1), ("each", 2, 1), ("floor", 4), ("top", 2)),
    (("floor", 1), ("floor", 2), ("near", 3), ("near", 1), ("each", 1, 2), ("top", 3), ("top", 4), ("each", 2, 3)),
    (("near", 4), ("top", 5), ("floor", -7), ("each", 0, 5), ("each", 2, 5), ("top", 5)),
)


def small_hits(names, scores, labels):
    """All hits with just these names and with such scores and labels."""
    rows = [list(itertools.product((name,), scores, labels)) for name in names]
    return [tuple(row) for row in itertools.product(*rows)]


def small_words(steps, most):
    """All words of at most so many of these steps."""
    rows = [word for size in range(most + 1) for word in itertools.product(steps, repeat=size)]
    return [word for word in rows if has_unlike_kinds(word)]


def has_unlike_kinds(word):
    """Whether no two eachs of the word have the same kind."""
    kinds = [step[1] for step in word if step[0] == "each"]
    return len(kinds) == len(set(kinds))


def is_better(one, other):
    """Whether one hit is better than the other one."""
    return one[1] > other[1] or one[1] == other[1] and one[0] < other[0]


def is_left(hit, step, got):
    """Whether the step, of the hits that it gets, leaves this one."""
    ahead = [other for other in got if is_better(other, hit)]
    if step[0] == "floor":
        return hit[1] >= step[1]
    if step[0] == "near":
        return all(other[1] - hit[1] <= step[1] for other in got)
    if step[0] == "each":
        return sum(other[2][step[1]] == hit[2][step[1]] for other in ahead) < step[2]
    return len(ahead) < step[1]


def left_of(hits, word):
    """The list of the hits that there are at first and behind each step."""
    rows = [hits]
    for step in word:
        rows.append(tuple(hit for hit in rows[-1] if is_left(hit, step, rows[-1])))
    return rows


def names_in(hits):
    """The names of these hits, in their order."""
    return tuple(hit[0] for hit in hits)


def picks(hits, word):
    """The set of the names that are picked."""
    return names_in(left_of(hits, word)[-1])


def those(hits, names):
    """The hits with these names."""
    return tuple(hit for hit in hits if hit[0] in names)


def together(sets):
    """The set of all that is in these sets."""
    return tuple(sorted(set().union(*sets)))


def less(some, others):
    """The set of those that are not among the others."""
    return tuple(sorted(set(some) - set(others)))


def sends(hits, parts, word):
    """The list of the sets of names that are picked of the single parts."""
    return [picks(those(hits, part), word) for part in parts]


def picks_parted(hits, parts, word):
    """The set of the names that are picked parted."""
    return picks(those(hits, together(sends(hits, parts, word))), word)


def all_parts(hits, many):
    """All parts of these hits that are so many sets."""
    for places in itertools.product(range(many), repeat=len(hits)):
        yield tuple(tuple(hit[0] for hit, place in zip(hits, places) if place == part) for part in range(many))


def is_exactly(one, other):
    """Whether both are equal and of the same kinds of values at every depth."""
    if type(one) is not type(other):
        return False
    if isinstance(one, (tuple, list)):
        return len(one) == len(other) and all(is_exactly(a, b) for a, b in zip(one, other))
    return one == other


def lists_all(value):
    """The value with lists in the place of tuples at every depth."""
    return [lists_all(item) for item in value] if isinstance(value, (tuple, list)) else value


def lists_from(value, depth):
    """The value with lists in the place of tuples at this depth and at each second one below it."""
    if not isinstance(value, (tuple, list)):
        return value
    items = [lists_from(item, depth - 1 if depth else 1) for item in value]
    return tuple(items) if depth else items


def ways(arguments):
    """The arguments as they are, and with lists for tuples; a thing stays as it is."""
    for change in (lambda value: value, lists_all, lambda value: lists_from(value, 0),
                   lambda value: lists_from(value, 1), lambda value: lists_from(value, 2)):
        yield {name: value if name == "thing" else change(value) for name, value in arguments.items()}


class Case(unittest.TestCase):
    """Tests that make each call by position and by names, with tuples and with lists."""

    def outcome(self, function, places, names):
        """What the call returns, or the error that it raises; the arguments must stay as they were."""
        before = copy.deepcopy([*places, *names.values()])
        try:
            told = function(*places, **names)
        except (LookupError, ValueError) as error:
            told = error
        self.assertTrue(is_exactly(before, [*places, *names.values()]), f"{function.__name__} changed {before}")
        return told

    def outcomes(self, function, arguments):
        """What all ways to make this call return or raise, one behind another."""
        for way in ways(arguments):
            yield self.outcome(function, tuple(way.values()), {})
            yield self.outcome(function, (), way)
            yield self.outcome(function, (), dict(reversed(way.items())))

    def gives(self, expected, function, **arguments):
        """The call returns just this, however it is made; a list that it returns is new each time."""
        call = f"{function.__name__}{arguments}"
        for told in self.outcomes(function, arguments):
            if isinstance(told, Exception):
                raise AssertionError(f"{call} raised {told!r}") from told
            self.assertTrue(is_exactly(expected, told), f"{call}: {told!r}, not {expected!r}")
            if isinstance(told, list):
                # Whoever gets a list may spoil it; the next call must not show that.
                told.append("spoilt")

    def told(self, function, **arguments):
        """What the call returns, the same however it is made, if the document leaves open what it is."""
        told = function(*arguments.values())
        self.gives(copy.deepcopy(told), function, **arguments)
        return told

    def fails(self, error, attributes, function, **arguments):
        """The call raises just this error with these attributes, however it is made."""
        for told in self.outcomes(function, arguments):
            self.is_error(error, attributes, told, f"{function.__name__}{arguments}")

    def is_error(self, error, attributes, told, call):
        """What the call told is an error of this class with these attributes."""
        self.assertIs(type(told), error, f"{call}: {told!r}")
        for name, value in attributes.items():
            self.assertTrue(is_exactly(value, getattr(told, name)), f"{call}: {name} is {getattr(told, name)!r}")

    def judges(self, function, right, wrong, **arguments):
        """The function, asked of each thing, returns True for the right ones and False for the wrong ones."""
        for answer, things in ((True, right), (False, wrong)):
            for thing in things:
                with self.subTest(thing=thing):
                    self.gives(answer, function, **arguments, thing=thing)

    def follows_example(self, name, words):
        """How many lines of this example were asked, each one telling what stands below it."""
        lines = (EXAMPLES / name).read_text().splitlines()
        asked = 0
        for line, answer in zip(lines, lines[1:] + [">>> "]):
            if line.startswith(">>> ") and answer.startswith(">>> "):
                exec(line[4:], words)
            elif line.startswith(">>> "):
                self.tells(line[4:], answer, words)
                asked += 1
        return asked

    def tells(self, line, answer, words):
        """The line returns, or raises, what the answer says."""
        if not answer.startswith("raises "):
            expected, told = eval(answer), eval(line, words)
            self.assertTrue(is_exactly(expected, told), f"{line}: {told!r}, not {expected!r}")
            return
        call = ast.parse(answer[len("raises "):], mode="eval").body
        with self.assertRaises((LookupError, ValueError)) as caught:
            eval(line, words)
        attributes = {keyword.arg: ast.literal_eval(keyword.value) for keyword in call.keywords}
        self.is_error(words[call.func.id], attributes, caught.exception, line)


def words_of(*modules):
    """The names that these files of the package bind, for an example."""
    return {name: value for module in modules for name, value in vars(module).items() if not name.startswith("__")}


def sets_of(names):
    """The list of all sets of these names, the empty one among them, ascending."""
    names = sorted(names)
    return sorted(some for size in range(len(names) + 1) for some in itertools.combinations(names, size))


def all_pickers(names):
    """All pickers of these names."""
    menus = sets_of(names)[1:]
    for choice in itertools.product(*[sets_of(menu) for menu in menus]):
        yield (names, tuple(zip(menus, choice)))


def picker_from(names, function):
    """The picker of these names that picks from each menu what the function tells of it."""
    return (names, tuple((menu, tuple(sorted(set(function(menu))))) for menu in sets_of(names)[1:]))


ODD_PICKER = picker_from(("a", "b", "c"), lambda menu: menu[:1] if len(menu) == 3 else menu)
EDGES = picker_from(("a", "b", "c"), lambda menu: (menu[0], menu[-1]))
NOTHING = picker_from(("a", "b"), lambda menu: ())
LONE = picker_from(("q",), lambda menu: menu)
LONE_NOTHING = picker_from(("q",), lambda menu: ())
# Pickers of five names: the ends of a row, all, the second one, the most but two, those that come in pairs.
FIVES = tuple(picker_from(tuple("abcde"), function) for function in (
    lambda menu: (menu[0], menu[-1]), lambda menu: menu, lambda menu: menu[1:2], lambda menu: menu[:-2],
    lambda menu: menu if len(menu) in (2, 4) else menu[:1], lambda menu: [name for name in menu if name not in "bd"],
    lambda menu: menu[:2]))
