"""What each part must send: how many steps are enough, what they leave, and papers that show it of more steps."""

from partpicks.errors import NoNumber
from partpicks.hits import part_of, put_together, without_names
from partpicks.parted import (barred_at, check_parts, is_parted_pair, may_be_parted, parted_paper, picked_among,
                              picked_in_parts)
from partpicks.steps import check_kinds, picked
from partpicks.words import kinds_needed, reduced


def first_steps(word, number):
    """The word of so many first steps of the reduced word; raises NoNumber if it has not so many."""
    steps = reduced(word)
    if not 0 <= number <= len(steps):
        raise NoNumber(number)
    return steps[:number]


def is_enough(word, number):
    """Whether, for all hits and all parts, it is enough that each part sends what so many first steps leave."""
    return may_be_parted(first_steps(word, number))


def enough(word):
    """The greatest number of first steps with which it is enough."""
    places = barred_at(word)
    return len(reduced(word)) if places is None else places[1]


def send_word(word):
    """The word of the most first steps of the reduced word with which it is enough."""
    return first_steps(word, enough(word))


def most_sent(word):
    """How many hits a part sends at the most; None if there is no such number."""
    steps = send_word(word)
    if steps and steps[-1][0] == "top":
        return steps[-1][1]
    return None


def sent(hits, parts, word):
    """The list of the sets of names that the parts send."""
    check_parts(hits, parts)
    check_kinds(hits, word)
    return picked_in_parts(hits, parts, send_word(word))


def how_many_sent(hits, parts, word):
    """How many hits the parts send in all."""
    return sum([len(names) for names in sent(hits, parts, word)])


def needed(hits, parts, word):
    """The set of those that are sent and without which another set would be picked of the others."""
    names = put_together(sent(hits, parts, word))
    right = picked(hits, word)
    return tuple([name for name in names if picked_among(hits, without_names(names, (name,)), word) != right])


def picked_of(hits, sets, word):
    """The set of the names that the word picks of the hits in these sets, put together."""
    for some in sets:
        part_of(hits, some)
    check_kinds(hits, word)
    return picked_among(hits, put_together(sets), word)


def wrong_by(hits, parts, word, number):
    """The pair of the sets of the names that are picked of hits alone, and of what is sent by so many steps alone."""
    steps = first_steps(word, number)
    check_parts(hits, parts)
    right = picked(hits, word)
    told = picked_among(hits, put_together(picked_in_parts(hits, parts, steps)), word)
    return (without_names(right, told), without_names(told, right))


def send_apart(word, number):
    """A pair of hits and of parts of them that shows that so many first steps are not enough; None if they are.

    The paper for the whole word does it: what it shows hangs on the first
    steps up to the each that is barred, and these are not enough already.
    """
    if is_enough(word, number):
        return None
    return parted_paper(word)


def is_send_apart(word, number, thing):
    """Whether it is a pair of hits and of parts of them that shows that so many first steps are not enough."""
    first_steps(word, number)
    return is_parted_pair(thing, kinds_needed(word)) and wrong_by(thing[0], thing[1], word, number) != ((), ())
