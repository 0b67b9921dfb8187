"""Pickers by rankings: what the bests by some rankings are, which rankings tell a picker, and how few of them can."""

from itertools import permutations

from partpicks.errors import NoName
from partpicks.hits import all_sets, put_together, without_names
from partpicks.tables import has_all, is_same_by_covers, table_of, wide_sets
from partpicks.things import is_name


def best_by(ranking, some):
    """The first name of the ranking that is in the set; None if there is none."""
    for name in ranking:
        if name in some:
            return name
    return None


def bests_by(rankings, some):
    """The set of the bests of the set by all these rankings."""
    bests = [best_by(ranking, some) for ranking in rankings]
    return put_together([[name for name in bests if name is not None]])


def picker_by(names, rankings):
    """The picker of these names that picks from each set the bests by all these rankings."""
    return (tuple(names), tuple([(menu, bests_by(rankings, menu)) for menu in all_sets(names)[1:]]))


def shown_names(picker):
    """The set of the names that are picked from some set."""
    return put_together(list(table_of(picker).values()))


def is_within_table(table, ranking):
    """Whether the best by the ranking of each set, if there is one, is picked from it."""
    return all([has_all(some, bests_by([ranking], menu)) for menu, some in table.items()])


def is_ranking_within(picker, ranking):
    """Whether the best by the ranking of each set, if there is one, is picked from it."""
    return is_within_table(table_of(picker), ranking)


def how_many_within(picker):
    """How many rankings that have just the shown names are within the picker."""
    table = table_of(picker)
    shown = shown_names(picker)
    return len([ranking for ranking in permutations(shown) if is_within_table(table, ranking)])


def ends_of(picker):
    """The list of the wide sets of which just one shown name, put to it, makes a wide set."""
    wide = wide_sets(picker)
    ends = []
    for some in wide:
        others = without_names(shown_names(picker), some)
        if len([name for name in others if put_together((some, (name,))) in wide]) == 1:
            ends.append(some)
    return ends


def has_lesser(one, sets, above, seen):
    """Whether one gets a lesser set to stand below it, if need be by giving other ones another one.

    above tells for each set that stands below one which one this is; seen are
    the sets that have been asked for already.
    """
    for other in sets:
        if other != one and has_all(one, other) and other not in seen:
            seen[other] = True
            if other not in above or has_lesser(above[other], sets, above, seen):
                above[other] = one
                return True
    return False


def chains_of(sets):
    """As few rows as can be, of sets each of which lies in the one ahead of it, that have each set once.

    The most pairs of sets, one below the other, leave the fewest rows.
    """
    above = {}
    for one in sets:
        has_lesser(one, sets, above, {})
    below = {more: less for less, more in above.items()}
    chains = []
    for some in sets:
        if some not in above:
            chain = [some]
            while chain[-1] in below:
                chain.append(below[chain[-1]])
            chains.append(chain)
    return chains


def ranking_along(picker, chain):
    """A ranking within the picker in which what is not in a set of the chain is ahead of all that is in it."""
    table = table_of(picker)
    left = shown_names(picker)
    ranking = []
    for some in chain + [()]:
        while not has_all(some, left):
            # Of a wide set, each name that is picked from it can go, and another wide set is left.
            name = without_names(table[left], some)[0]
            ranking.append(name)
            left = without_names(left, (name,))
    return tuple(ranking)


def rankings_for(picker):
    """As few rankings as can be that tell the picker; None if there are none.

    They tell it if each end is what is left of all names when some first ones
    of a ranking are gone.
    """
    if not is_same_by_covers(picker):
        return None
    return tuple([ranking_along(picker, chain) for chain in chains_of(ends_of(picker))])


def fewest_rankings(picker):
    """How many rankings at least tell the picker; None if there are none."""
    rankings = rankings_for(picker)
    return None if rankings is None else len(rankings)


def is_ranking(thing):
    """Whether it is a tuple of unlike names."""
    return isinstance(thing, tuple) and all([is_name(name) for name in thing]) and len(set(thing)) == len(thing)


def is_rankings_for(picker, thing):
    """Whether it is rankings that tell the picker."""
    if not (isinstance(thing, tuple) and all([is_ranking(ranking) for ranking in thing])):
        return False
    return all([bests_by(thing, menu) == some for menu, some in table_of(picker).items()])


def greatest_menus(picker, name):
    """The ascending list of the sets from which this name is picked that lie in no other such set."""
    if name not in picker[0]:
        raise NoName(name)
    menus = sorted([menu for menu, some in table_of(picker).items() if name in some])
    return [menu for menu in menus if not [more for more in menus if more != menu and has_all(more, menu)]]
