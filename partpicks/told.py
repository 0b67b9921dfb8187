"""Told hits: what is lost and what comes in if they are parted, and what all their cuts tell."""

from partpicks.hits import all_sets, hit_of, in_each, is_parts, names_of, put_together, without_names
from partpicks.parted import picked_parted
from partpicks.steps import picked


def lost(hits, parts, word):
    """The set of the hits that are picked from all and not picked parted."""
    told = picked_parted(hits, parts, word)
    return without_names(picked(hits, word), told)


def come_in(hits, parts, word):
    """The set of the hits that are picked parted and not picked from all."""
    told = picked_parted(hits, parts, word)
    return without_names(told, picked(hits, word))


def all_cuts(hits):
    """The ascending list of the cuts of the hits."""
    names = names_of(hits)
    # The first set has the least name, so that it is () only if there is no hit.
    firsts = [names[:1] + some for some in all_sets(names[1:])]
    return [(some, without_names(names, some)) for some in firsts]


def is_cut(hits, thing):
    """Whether it is a cut of the hits."""
    return is_parts(hits, thing) and len(thing) == 2 and thing[0][:1] == names_of(hits)[:1]


def wrong_cuts(hits, word):
    """The ascending list of the cuts by which what is picked parted is not what is picked from all."""
    right = picked(hits, word)
    return [cut for cut in all_cuts(hits) if picked_parted(hits, cut, word) != right]


def how_many_right(hits, word):
    """By how many cuts what is picked parted is what is picked from all."""
    return len(all_cuts(hits)) - len(wrong_cuts(hits, word))


def how_many_wrong(hits, word):
    """By how many cuts what is picked parted is not what is picked from all."""
    return len(wrong_cuts(hits, word))


def wrong_cut(hits, word):
    """The least cut by which what is picked parted is not what is picked from all; None if there is none."""
    cuts = wrong_cuts(hits, word)
    return cuts[0] if cuts else None


def how_many_lost(hits, cut, word):
    """How many hits are lost by this cut."""
    return len(lost(hits, cut, word))


def most_lost(hits, word):
    """How many hits are lost at the most by a cut."""
    return max([how_many_lost(hits, cut, word) for cut in all_cuts(hits)])


def worst_cut(hits, word):
    """A cut by which as many hits are lost as can be."""
    return max(all_cuts(hits), key=lambda cut: how_many_lost(hits, cut, word))


def is_worst_cut(hits, word, thing):
    """Whether it is a cut by which as many hits are lost as can be."""
    return is_cut(hits, thing) and how_many_lost(hits, thing, word) == most_lost(hits, word)


def shown_by_cuts(hits, word):
    """The list of the sets that are picked parted by the single cuts."""
    return [picked_parted(hits, cut, word) for cut in all_cuts(hits)]


def surely_shown(hits, word):
    """The set of the hits that are picked parted by each cut."""
    return in_each(shown_by_cuts(hits, word))


def maybe_shown(hits, word):
    """The set of the hits that are picked parted by some cut."""
    return put_together(shown_by_cuts(hits, word))


def cut_losing(hits, word, name):
    """A cut by which this hit is picked from all and not picked parted; None if there is none."""
    hit_of(hits, name)
    for cut in all_cuts(hits):
        if name in lost(hits, cut, word):
            return cut
    return None


def is_cut_losing(hits, word, name, thing):
    """Whether it is a cut by which this hit is picked from all and not picked parted."""
    hit_of(hits, name)
    return is_cut(hits, thing) and name in lost(hits, thing, word)
