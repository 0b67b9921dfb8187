"""Texts: names, hits, words, parts and trees as they are written, and read back."""

from partpicks.errors import BadLine, BadText
from partpicks.hits import is_hits
from partpicks.steps import is_word
from partpicks.things import is_name, is_number

DIGITS = "0123456789"


def names_text(some):
    """The names with a blank between two."""
    return " ".join(some) if some else "-"


def hit_text(hit):
    """The name, the score and the labels of a hit."""
    name, score, labels = hit
    return " ".join([name, str(score)] + list(labels))


def hits_text(hits):
    """The hits, one behind another."""
    return ", ".join([hit_text(hit) for hit in hits]) if hits else "-"


def step_text(step):
    """The word and the numbers of a step."""
    return " ".join([str(one) for one in step])


def word_text(word):
    """The steps of a word, one behind another."""
    return "; ".join([step_text(step) for step in word]) if word else "-"


def parts_text(parts):
    """The names of each part, one part behind another."""
    return "; ".join([names_text(part) for part in parts]) if parts else "/"


def tree_text(tree):
    """A place as a number, a tuple of trees in brackets."""
    if is_number(tree):
        return str(tree)
    return "(" + " ".join([tree_text(one) for one in tree]) + ")"


def lines_text(hits):
    """For each hit a line."""
    return "\n".join([hit_text(hit) for hit in hits])


def number_read(text):
    """The number that is written so; None if there is none."""
    digits = text.removeprefix("-")
    if not digits or not all([sign in DIGITS for sign in digits]):
        return None
    if digits[0] == "0" and text != "0":
        return None
    number = 0
    for sign in digits:
        # Digit by digit, as Python's own reading of numbers refuses very long ones.
        number = number * 10 + DIGITS.index(sign)
    return number if text == digits else -number


def names_read(text):
    """The tuple of names with this text."""
    if text == "-":
        return ()
    names = tuple(text.split(" "))
    if not all([is_name(name) for name in names]):
        raise BadText()
    return names


def hit_read(text):
    """What stands in the text of a hit; it is no hit if the text is not so written."""
    row = text.split(" ")
    if len(row) < 3:
        return None
    return (row[0], number_read(row[1]), tuple(row[2:]))


def hits_read(text):
    """The hits with this text."""
    if text == "-":
        return ()
    hits = tuple([hit_read(row) for row in text.split(", ")])
    if not is_hits(hits):
        raise BadText()
    return hits


def step_read(text):
    """What stands in the text of a step; it is no step if the text is not so written."""
    row = text.split(" ")
    return (row[0],) + tuple([number_read(one) for one in row[1:]])


def word_read(text):
    """The word with this text."""
    if text == "-":
        return ()
    word = tuple([step_read(row) for row in text.split("; ")])
    if not is_word(word):
        raise BadText()
    return word


def parts_read(text):
    """The tuple of tuples of names with this text."""
    if text == "/":
        return ()
    return tuple([names_read(row) for row in text.split("; ")])


def brackets_around(text):
    """How many brackets stand ahead of what a word of the text of a tree holds, this, and how many behind it."""
    inner = text.lstrip("(")
    bare = inner.rstrip(")")
    return (len(text) - len(inner), bare, len(inner) - len(bare))


def branches_read(text):
    """The list of what stands side by side in a text of places and brackets."""
    # One list for each bracket that is not closed yet, behind the one for what stands in none; so a text
    # with however many brackets is read without functions that call themselves.
    rows = [[]]
    for one in text.split(" "):
        opened, bare, closed = brackets_around(one)
        for _ in range(opened):
            rows.append([])
        rows[-1].append(number_read(bare))
        for _ in range(closed):
            if len(rows) < 2 or len(rows[-1]) < 2:
                raise BadText()
            branch = tuple(rows.pop())
            rows[-1].append(branch)
    if len(rows) > 1:
        raise BadText()
    return rows[0]


def tree_read(text):
    """The tree of some parts with this text."""
    branches = branches_read(text)
    places = [number_read(brackets_around(one)[1]) for one in text.split(" ")]
    if len(branches) != 1 or None in places or sorted(places) != list(range(len(places))):
        raise BadText()
    return branches[0]


def lines_read(text):
    """The hits with these lines."""
    hits = ()
    for number, line in enumerate(text.split("\n") if text else []):
        hits = hits + (hit_read(line),)
        if not is_hits(hits):
            raise BadLine(number)
    return hits
