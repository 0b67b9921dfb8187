"""The desk: lines that ask a board for its deeds and for what it tells, and the replies."""

from partpicks.board import Board
from partpicks.errors import BadLine, BadText, NoName, NoNumber, NothingDone, Twice
from partpicks.hits import is_labels
from partpicks.parted import may_be_parted
from partpicks.steps import goes_at, page, score_needed
from partpicks.texts import hits_text, names_text, number_read, parts_text, word_read, word_text
from partpicks.things import is_name
from partpicks.words import reduced

BARE = ("gather", "undo", "picked", "shown", "lost", "page", "hits", "parts", "word", "reduced", "parted", "right",
        "many", "deeds")


def is_score(text):
    """Whether it is the text of a number within the bounds."""
    number = number_read(text)
    return number is not None and -(10 ** 40) <= number <= 10 ** 40


def is_machine(text):
    """Whether it is the text of a number from 0 to 11."""
    number = number_read(text)
    return number is not None and 0 <= number <= 11


def is_coming(rest):
    """Whether it is a name, a score, a machine and labels."""
    row = rest.split(" ")
    if len(row) < 4:
        return False
    return is_name(row[0]) and is_score(row[1]) and is_machine(row[2]) and is_labels(tuple(row[3:]))


def is_moving(rest):
    """Whether it is a name and a machine."""
    name, _, machine = rest.partition(" ")
    return is_name(name) and is_machine(machine)


def is_changing(rest):
    """Whether it is the text of a word within the bounds."""
    try:
        word = word_read(rest)
    except BadText:
        return False
    return len(word) <= 8 and all([abs(number) <= 10 ** 40 for step in word for number in step[1:]])


def is_request(thing):
    """Whether it is a string that asks a board for something."""
    if not isinstance(thing, str):
        return False
    verb, blank, rest = thing.partition(" ")
    if not blank:
        return verb in BARE
    if verb == "come":
        return is_coming(rest)
    if verb == "move":
        return is_moving(rest)
    if verb == "change":
        return is_changing(rest)
    return verb in ("go", "goes", "needed") and is_name(rest)


def yes_or_no(answer):
    """The text of a truth."""
    return "yes" if answer else "no"


def number_or_none(number):
    """The text of a number that may be missing."""
    return "-" if number is None else str(number)


def reply_to_come(board, rest):
    """Whether the hit that comes is shown then."""
    name, score, machine, *labels = rest.split(" ")
    return yes_or_no(board.come(name, number_read(score), labels, number_read(machine)))


def reply_to_go(board, rest):
    """The names that are shown as the hit is gone."""
    return names_text(board.go(rest))


def reply_to_move(board, rest):
    """The machine on which the hit lay."""
    name, _, machine = rest.partition(" ")
    return str(board.move(name, number_read(machine)))


def reply_to_change(board, rest):
    """The word that it was."""
    return word_text(board.change(word_read(rest)))


def reply_to_goes(board, rest):
    """The place of the step at which the hit goes."""
    return number_or_none(goes_at(board.hits(), board.word(), rest))


def reply_to_needed(board, rest):
    """The score that the hit needs."""
    return number_or_none(score_needed(board.hits(), board.word(), rest))


def reply_to_deed(board, verb):
    """The reply to a deed that is one word."""
    if verb == "gather":
        board.gather()
    else:
        board.undo()
    return "done"


def reply_by_names(board, verb):
    """The names that the verb asks for."""
    if verb == "picked":
        return names_text(board.picked())
    if verb == "shown":
        return names_text(board.shown())
    if verb == "lost":
        return names_text(board.lost())
    return names_text(page(board.hits(), board.word()))


def reply_by_text(board, verb):
    """The text of what the verb asks for."""
    if verb == "hits":
        return hits_text(board.hits())
    if verb == "parts":
        return parts_text(board.parts())
    return word_text(board.word() if verb == "word" else reduced(board.word()))


def reply_by_truth(board, verb):
    """Whether what the verb asks for is so."""
    if verb == "parted":
        return yes_or_no(may_be_parted(board.word()))
    return yes_or_no(board.shown() == board.picked())


def reply_by_number(board, verb):
    """How many there are of what the verb asks for."""
    return str(len(board) if verb == "many" else board.deeds())


# What stands behind the verb is handed in, or the verb itself where nothing does.
REPLIES = {
    "come": reply_to_come, "go": reply_to_go, "move": reply_to_move, "change": reply_to_change,
    "goes": reply_to_goes, "needed": reply_to_needed, "gather": reply_to_deed, "undo": reply_to_deed,
    "picked": reply_by_names, "shown": reply_by_names, "lost": reply_by_names, "page": reply_by_names,
    "hits": reply_by_text, "parts": reply_by_text, "word": reply_by_text, "reduced": reply_by_text,
    "parted": reply_by_truth, "right": reply_by_truth, "many": reply_by_number, "deeds": reply_by_number,
}


def reply(board, line):
    """The reply to one request, which is done on the board; nothing is changed if it is refused."""
    verb, _, rest = line.partition(" ")
    answer = REPLIES[verb]
    try:
        return answer(board, rest or verb)
    except Twice:
        return "refused Twice"
    except NoName:
        return "refused NoName"
    except NoNumber:
        return "refused NoNumber"
    except NothingDone:
        return "refused NothingDone"


def replies(word, machines, text):
    """The list of the replies to the lines of the text, requests that are done on a new board."""
    lines = text.split("\n") if text else []
    for number, line in enumerate(lines):
        if not is_request(line):
            raise BadLine(number)
    board = Board(word, machines)
    return [reply(board, line) for line in lines]
