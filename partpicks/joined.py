"""Several words joined: what one of them picks, or each of them, also of hits in parts, and papers that part both."""

from partpicks.beside import is_within, most_needed
from partpicks.errors import NoPaper
from partpicks.hits import in_each, names_of, put_together, without_names
from partpicks.parted import check_parts, hits_made, is_parted_pair, name_at
from partpicks.steps import picked
from partpicks.words import caps_left, floor_of, is_cap, own_word, reduced


def joined(hits, words, way):
    """The set of the names that one of the words at least picks, or that each of them does."""
    sets = [picked(hits, word) for word in words]
    return in_each(sets) if way == "all" else put_together(sets)


def votes(hits, words):
    """For each hit the pair of its name and of the number of the words that pick it."""
    sets = [picked(hits, word) for word in words]
    return tuple([(name, len([some for some in sets if name in some])) for name in names_of(hits)])


def joined_among(hits, names, words, way):
    """The set of the names that are joined of the hits with these names."""
    return joined([hit for hit in hits if hit[0] in names], words, way)


def joined_parted(hits, parts, words, way):
    """The set of the names that are joined of what is joined of the single parts."""
    check_parts(hits, parts)
    left = [joined_among(hits, part, words, way) for part in parts]
    return joined_among(hits, put_together(left), words, way)


def joined_lost(hits, parts, words, way):
    """The set of the names that are joined and are not joined parted."""
    told = joined_parted(hits, parts, words, way)
    return without_names(joined(hits, words, way), told)


def joined_come(hits, parts, words, way):
    """The set of the names that are joined parted and are not joined."""
    told = joined_parted(hits, parts, words, way)
    return without_names(told, joined(hits, words, way))


def may_be_joined(one, other, way):
    """Whether, for all hits and all parts, what two words that may be parted join parted is what they join."""
    if way == "any":
        return True
    own, others = caps_left(one), caps_left(other)
    return is_within(own, others) or is_within(others, own)


def both_word(one, other):
    """The reduced word that picks what both words pick, which may be parted; None if there is none."""
    if not may_be_joined(one, other, "all"):
        return None
    own, others = caps_left(one), caps_left(other)
    bars = [step for step in own_word(one) + own_word(other) if not is_cap(step)]
    return reduced(tuple(bars) + (own if is_within(own, others) else others))


def spared_rows(one, other):
    """Rows of hits the last of which other bars of them all, but not if those that one bars of the others are gone.

    These are caps of which the first ones are an each of one and, of no lesser
    number, an each or a top of other. What is left of the others are so few
    hits that no top bars the last one then.
    """
    kind, size = one[0][1:]
    if other[0][0] == "top":
        return [{kind: "s"}] * other[0][1] + [{}]
    own, number = other[0][1:]
    if own != kind:
        return [{kind: "s"}] * size + [{kind: "s", own: "q"}] * number + [{own: "q"}]
    # The each of other bars none of these, so that they fill its top; the lesser each of one bars some.
    return [{kind: "s" + name_at(at // number)} for at in range(other[1][1])] + [{}]


def joined_paper(one, other):
    """A pair of hits and of two parts of them by which what each of both picks is not the same parted.

    All hits have one score, so that no near and no lesser floor bars one. The
    last hit is a part of its own: those that are gone of the other part let
    it in.
    """
    if may_be_joined(one, other, "all"):
        raise NoPaper()
    least, great = sorted([caps_left(one), caps_left(other)], key=lambda row: row[0][-1])
    floors = [floor_of(word) for word in (one, other) if floor_of(word) is not None]
    hits = hits_made(spared_rows(least, great), most_needed(one, other), max(floors, default=0))
    names = names_of(hits)
    return (hits, (names[:-1], names[-1:]))


def is_joined_paper(one, other, way, thing):
    """Whether it is a pair of hits and of parts of them by which what both join parted is not what they join."""
    if not is_parted_pair(thing, most_needed(one, other)):
        return False
    hits, parts = thing
    return joined_parted(hits, parts, (one, other), way) != joined(hits, (one, other), way)
