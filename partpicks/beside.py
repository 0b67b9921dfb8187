"""Two words: which hits just one picks, which words pick alike or within one another, and papers that show it."""

from partpicks.errors import NoPaper
from partpicks.hits import best_first, is_hits, kinds, without_names
from partpicks.parted import barring_rows, hits_made, name_at, turned_rows
from partpicks.steps import kinds_in, picked
from partpicks.words import caps_left, floor_of, kinds_needed, near_of, reduced


def only_by(hits, one, other):
    """The set of the names that one picks and other does not."""
    return without_names(picked(hits, one), picked(hits, other))


def first_unlike(hits, one, other):
    """The best hit that just one of both words picks; None if there is none."""
    unlike = only_by(hits, one, other) + only_by(hits, other, one)
    for name in best_first(hits):
        if name in unlike:
            return name
    return None


def is_straight(word):
    """Whether in the reduced word nothing stands behind a top."""
    return "top" not in [step[0] for step in reduced(word)[:-1]]


def are_alike(one, other):
    """Whether two straight words pick the same for all hits with all kinds that they need."""
    return reduced(one) == reduced(other)


def most_needed(one, other):
    """How many kinds hits must have for both words."""
    return max(kinds_needed(one), kinds_needed(other))


def pair_made(many, score, gap):
    """Two hits with no label in common: one of this score ahead, so much better, and one of this score."""
    best, last = hits_made([{}, {}], many, score)
    return ((best[0], score + gap, best[2]), last)


def parting_rows(one, other):
    """Lists of rows of hits; of one of them, if all scores are the same, these unlike straight caps pick unlike.

    Each of the two caps that stand at the first unlike place bars the last hit
    of its own rows. The other word picks this hit, unless an each of the same
    kind stands behind in it: then there must be hits that bar those ahead of it.
    """
    same = 0
    while one[:same + 1] == other[:same + 1]:
        same += 1
    alike = [kind for kind in (0, 1, 2) if kind not in kinds_in(one[:same])]
    unlike = [caps_of[same] for caps_of in (one, other) if len(caps_of) > same]
    found = [barring_rows(cap, alike) for cap in unlike]
    if [cap[0] for cap in unlike] == ["each", "each"]:
        first, second = unlike
        # So many groups that each hit by which the second one bars the last is barred by the first one.
        found.append(turned_rows(first, second, -(-second[2] // first[2]), alike))
    return found


def parting_hits(one, other):
    """Hits of which two straight words do not pick the same."""
    if are_alike(one, other):
        raise NoPaper()
    many = max(most_needed(one, other), 1)
    floors = [floor_of(word) for word in (one, other) if floor_of(word) is not None]
    if floor_of(one) != floor_of(other):
        return hits_made([{}], many, max(floors) - 1)
    score = max(floors, default=0)
    if caps_left(one) == caps_left(other):
        nears = [near_of(word) for word in (one, other) if near_of(word) is not None]
        return pair_made(many, score, min(nears) + 1)
    found = [hits_made(rows, many, score) for rows in parting_rows(caps_left(one), caps_left(other))]
    return [hits for hits in found if picked(hits, one) != picked(hits, other)][0]


def has_floor_within(one, other):
    """Whether each hit of a score with which the floors of one leave it is left by those of other."""
    if floor_of(other) is None:
        return True
    return floor_of(one) is not None and floor_of(one) >= floor_of(other)


def has_near_within(one, other):
    """Whether one, in which the best hit alone may be left, bars by nears all hits that other so bars."""
    near, own = near_of(reduced(other)), near_of(reduced(one))
    if near is None or ("top", 1) in reduced(one):
        return True
    return own is not None and own <= near


def place_behind(one, other):
    """How far ahead of the last hit that the first caps can leave there are hits by the other ones at most.

    Both are an each of one kind and a top. The most are there if as many labels
    as can be have just so many hits, or more, as one by its each leaves of them.
    """
    labels, rest = divmod(one[1][1] - 1, one[0][2])
    return labels * other[0][2] + rest


def has_caps_within(one, other):
    """Whether these caps of a word that may be parted pick nothing that the other ones do not."""
    if not one or not other:
        return not other
    if one[0][0] == "top":
        return other[0][-1] >= one[0][1]
    if other[0][:-1] != one[0][:-1] or other[0][2] < one[0][2]:
        return False
    return len(other) == 1 or (len(one) == 2 and place_behind(one, other) < other[1][1])


def is_within(one, other):
    """Whether one, of two words that may be parted, picks nothing that other does not, for all hits."""
    caps_within = has_caps_within(caps_left(one), caps_left(other))
    return has_floor_within(one, other) and has_near_within(one, other) and caps_within


def within_rows(one, other):
    """Rows of hits, of one score, the last of which these caps pick and the other ones do not."""
    if not one or other[0][:-1] != one[0][:-1] or other[0][-1] < one[0][-1]:
        return barring_rows(other[0], (0, 1, 2))
    if len(one) == 1:
        return barring_rows(other[1], ())
    kind, size = one[0][1:]
    labels, rest = divmod(one[1][1] - 1, size)
    rows = [{kind: "s" + name_at(at)} for at in range(labels) for _ in range(other[0][2])]
    return rows + [{kind: "s"}] * rest + [{}]


def within_paper(one, other):
    """A pair of hits and of the name of one that one picks and other does not."""
    if is_within(one, other):
        raise NoPaper()
    many = max(most_needed(one, other), 1)
    score = floor_of(one) or 0
    if not has_floor_within(one, other):
        hits = hits_made([{}], many, floor_of(other) - 1)
    elif not has_near_within(one, other):
        hits = pair_made(many, score, near_of(other) + 1)
    else:
        hits = hits_made(within_rows(caps_left(one), caps_left(other)), many, score)
    return (hits, hits[-1][0])


def is_parting_hits(one, other, thing):
    """Whether it is hits, with all kinds that both words need, of which they do not pick the same."""
    if not (is_hits(thing) and kinds(thing) >= most_needed(one, other)):
        return False
    return picked(thing, one) != picked(thing, other)


def is_within_paper(one, other, thing):
    """Whether it is a pair of such hits and of a name that one picks of them and other does not."""
    if not (isinstance(thing, tuple) and len(thing) == 2 and is_parting_hits(one, other, thing[0])):
        return False
    return thing[1] in only_by(thing[0], one, other)
