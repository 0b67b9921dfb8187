"""Hits in parts: what is picked parted, which words may be parted, and papers that show it of the others."""

from partpicks.errors import NoPaper, NoParts
from partpicks.hits import is_hits, is_parts, kinds, names_of, put_together
from partpicks.steps import kinds_in, picked
from partpicks.words import floor_of, is_cap, kinds_needed, reduced

LETTERS = "abcdefghijklmnopqrstuvwxyz"


def check_parts(hits, parts):
    """Raise NoParts unless these sets of names are parts of the hits."""
    if not is_parts(hits, tuple([tuple(part) for part in parts])):
        raise NoParts()


def picked_among(hits, names, word):
    """The set of the names that the word picks of the hits with these names."""
    return picked([hit for hit in hits if hit[0] in names], word)


def picked_in_parts(hits, parts, word):
    """The list of the sets of names that the word picks of the hits of each part."""
    return [picked_among(hits, part, word) for part in parts]


def picked_parted(hits, parts, word):
    """The set of the names that the word picks of what it picks of the single parts."""
    check_parts(hits, parts)
    return picked_among(hits, put_together(picked_in_parts(hits, parts, word)), word)


def is_right(hits, parts, word):
    """Whether what is picked parted is what is picked."""
    return picked_parted(hits, parts, word) == picked(hits, word)


def barred_at(word):
    """The least pair of places in the reduced word of a cap and of an each behind it; None if there is none."""
    steps = reduced(word)
    for one in range(len(steps)):
        for other in range(one + 1, len(steps)):
            if is_cap(steps[one]) and steps[other][0] == "each":
                return (one, other)
    return None


def may_be_parted(word):
    """Whether, for all hits and all parts, what is picked parted is what is picked."""
    return barred_at(word) is None


def name_at(at):
    """A name of four letters for this number; a greater number has a greater name."""
    name = ""
    for _ in range(4):
        name = LETTERS[at % 26] + name
        at = at // 26
    return name


def hits_made(rows, many, score):
    """Hits of so many kinds, all with this score, so that no near and no lesser floor bars one.

    There is one for each row, the best one first. A row tells labels by their
    kinds; each label that it does not tell is one that no other hit has.
    """
    made = []
    for at, row in enumerate(rows):
        name = name_at(at)
        made.append((name, score, tuple([row.get(kind, name) for kind in range(many)])))
    return tuple(made)


def barring_rows(cap, alike):
    """Rows of hits the last of which this cap bars, if it gets them all.

    The others are alike in all these kinds, so that few of them are left by a
    cap of such a kind; the last one is alike with them in the kind of this cap
    alone, so that such another cap does not bar it.
    """
    ahead = {kind: "s" for kind in alike}
    last = {cap[1]: "s"} if cap[0] == "each" else {}
    return [ahead] * cap[-1] + [last]


def turned_rows(first, second, groups, alike):
    """Rows of hits the last of which one each bars unless another one, the first, stands ahead of it.

    As many rows as the number of the second each bar the last hit by it. The
    best rows of all, in so many groups as large as the number of the first
    each, bar those of their group by the first each; then the last hit is not
    barred. All but the last are alike in each other one of these kinds.
    """
    kind, size = first[1:]
    other, number = second[1:]
    shared = {one: "u" for one in alike if one not in (kind, other)}
    groups_of = ["s" + name_at(at // size) for at in range(size * groups)]
    rows = [{**shared, kind: label, other: "p"} for label in groups_of]
    rows.extend([{**shared, kind: label, other: "q"} for label in groups_of[:number]])
    rows.extend([{**shared, other: "q"}] * (number - len(groups_of)))
    return rows + [{other: "q"}]


def parted_paper(word):
    """A pair of hits and of two parts of them by which what is picked parted is not what is picked.

    Behind a top, an each bars nearly all hits of the first part, and so lets
    in the one of the second part, which the top bars of all. Behind another
    each, hits of the first part bar one that is picked of all, where those of
    the second part bar them.
    """
    places = barred_at(word)
    if places is None:
        raise NoPaper()
    steps = reduced(word)[places[0]:places[1] + 1]
    alike = [kind for kind in range(kinds_needed(word)) if kind not in kinds_in(steps[:-2])]
    if steps[-2][0] == "top":
        rows = barring_rows(steps[-2], alike)
        start, end = len(rows) - 1, len(rows)
    else:
        rows = turned_rows(steps[0], steps[1], 1, alike)
        start, end = 0, steps[0][2]
    hits = hits_made(rows, kinds_needed(word), floor_of(word) or 0)
    names = names_of(hits)
    return (hits, (names[:start] + names[end:], names[start:end]))


def is_parted_pair(thing, many):
    """Whether it is a pair of hits with at least so many kinds and of parts of them."""
    if not (isinstance(thing, tuple) and len(thing) == 2 and is_hits(thing[0])):
        return False
    return kinds(thing[0]) >= many and is_parts(thing[0], thing[1])


def is_parted_paper(word, thing):
    """Whether it is a pair of hits and of parts of them by which what is picked parted is not what is picked."""
    return is_parted_pair(thing, kinds_needed(word)) and not is_right(thing[0], thing[1], word)
