"""Words told back: the words that fit told cases, what they pick of other hits, and cases that quarrel."""

from itertools import combinations

from partpicks.errors import NoPaper
from partpicks.hits import in_each, names_of, put_together, without_names
from partpicks.steps import is_word, picked


def plain_words(many, size, most):
    """The ascending list of the words of at most so many tops and eachs, of so many kinds and up to this number."""
    numbers = range(1, most + 1)
    steps = [("top", number) for number in numbers]
    steps.extend([("each", kind, number) for kind in range(many) for number in numbers])
    longest = [()]
    found = [()]
    for _ in range(size):
        longer = [word + (step,) for word in longest for step in steps]
        longest = [word for word in longer if is_word(word)]
        found.extend(longest)
    return sorted(found)


def fits(case, word):
    """Whether just the names that are shown in the case are picked from its hits."""
    hits, names = case
    return picked(hits, word) == tuple(names)


def fitting_words(cases, many, size, most):
    """The ascending list of the plain words that fit all cases."""
    return [word for word in plain_words(many, size, most) if all([fits(case, word) for case in cases])]


def picked_by_fitting(cases, many, size, most, hits):
    """The list of the sets that the plain words that fit all cases pick from the hits, one at least."""
    words = fitting_words(cases, many, size, most)
    if not words:
        raise NoPaper()
    return [picked(hits, word) for word in words]


def surely_picked(cases, many, size, most, hits):
    """The set of the names that are picked from the hits by all plain words that fit all cases."""
    return in_each(picked_by_fitting(cases, many, size, most, hits))


def maybe_picked(cases, many, size, most, hits):
    """The set of the names that are picked from the hits by some plain word that fits all cases."""
    return put_together(picked_by_fitting(cases, many, size, most, hits))


def is_quarrel(misfits, places):
    """Whether in each row of misfits there is one of these places."""
    return all([[place for place in row if place in places] != [] for row in misfits])


def least_quarrel(cases, many, size, most):
    """The least set of as few places as can be of cases that no plain word fits; None if one fits all cases."""
    misfits = []
    for word in plain_words(many, size, most):
        misfits.append([place for place, case in enumerate(cases) if not fits(case, word)])
    for less in range(1, len(cases) + 1):
        for places in combinations(range(len(cases)), less):
            if is_quarrel(misfits, places):
                return places
    return None


def range_between(lows, highs):
    """The pair of the greatest low and of the least high number, None for one that is not there.

    None if no number is from the first one to the second one.
    """
    low, high = max(lows, default=None), min(highs, default=None)
    if low is not None and high is not None and low > high:
        return None
    return (low, high)


def has_unknown(cases):
    """Whether in some case a name is shown that no hit has."""
    return any([without_names(names, names_of(hits)) != () for hits, names in cases])


def floors_fitting(cases):
    """The pair of the least and of the greatest number with which a floor alone fits all cases."""
    lows, highs = [], []
    for hits, names in cases:
        highs.extend([hit[1] for hit in hits if hit[0] in names])
        lows.extend([hit[1] + 1 for hit in hits if hit[0] not in names])
    return None if has_unknown(cases) else range_between(lows, highs)


def nears_fitting(cases):
    """The pair of the least and of the greatest number, from 0, with which a near alone fits all cases."""
    lows, highs = [0], []
    for hits, names in cases:
        best = max([hit[1] for hit in hits], default=0)
        lows.extend([best - hit[1] for hit in hits if hit[0] in names])
        highs.extend([best - hit[1] - 1 for hit in hits if hit[0] not in names])
    return None if has_unknown(cases) else range_between(lows, highs)
