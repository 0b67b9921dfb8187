"""Trees and waves: what is shown if parts are put together one behind another, and papers that show it wrong."""

from itertools import combinations, permutations

from partpicks.errors import NoPaper, NoTree
from partpicks.hits import put_together
from partpicks.parted import check_parts, is_parted_pair, parted_paper, picked_among
from partpicks.steps import picked
from partpicks.things import is_number
from partpicks.words import kinds_needed


def is_node(thing):
    """Whether it is a number or a tuple of two such things or more."""
    if is_number(thing):
        return True
    return isinstance(thing, tuple) and len(thing) >= 2 and all([is_node(one) for one in thing])


def places_in(tree):
    """The list of the places in a tree."""
    if is_number(tree):
        return [tree]
    places = []
    for one in tree:
        places.extend(places_in(one))
    return places


def is_tree(parts, thing):
    """Whether it is a tree in which each place in parts stands just once."""
    return is_node(thing) and sorted(places_in(thing)) == list(range(len(parts)))


def own_tree(tree):
    """The same tree, made of tuples throughout."""
    if is_number(tree):
        return tree
    return tuple([own_tree(one) for one in tree])


def shown_by(hits, parts, word, tree):
    """The set that is shown by a tree, or by one in it."""
    if is_number(tree):
        return picked_among(hits, parts[tree], word)
    return picked_among(hits, put_together([shown_by(hits, parts, word, one) for one in tree]), word)


def shown(hits, parts, word, tree):
    """The set of the names that are shown by this tree."""
    check_parts(hits, parts)
    if not is_tree(parts, own_tree(tree)):
        raise NoTree()
    return shown_by(hits, parts, word, tree)


def rows_of_trees(places, trees, rows):
    """What two trees or more put together, and each time these trees, if they have just these places.

    trees and rows hold, for all fewer places, what one tree shows, and what one
    tree or more put together. The first tree has the first place, as the order
    of the trees does not matter.
    """
    found = {}
    for size in range(1, len(places)):
        for first in combinations(places, size):
            if first[0] == places[0]:
                rest = tuple([place for place in places if place not in first])
                for names, tree in trees[first].items():
                    for others, row in rows[rest].items():
                        found[put_together((names, others))] = (tree,) + row
    return found


def shown_by_trees(hits, parts, word):
    """For each set that some tree shows one of the trees that show it."""
    trees = {}
    rows = {}
    for size in range(1, len(parts) + 1):
        for places in combinations(range(len(parts)), size):
            if size == 1:
                trees[places] = {picked_among(hits, parts[places[0]], word): places[0]}
                rows[places] = {}
            else:
                rows[places] = rows_of_trees(places, trees, rows)
                trees[places] = {picked_among(hits, names, word): row for names, row in rows[places].items()}
            for names, tree in trees[places].items():
                rows[places][names] = (tree,)
    return trees[tuple(range(len(parts)))]


def tree_shows(hits, parts, word):
    """The set of the sets that are shown by some tree."""
    check_parts(hits, parts)
    return tuple(sorted(shown_by_trees(hits, parts, word)))


def wrong_tree(hits, parts, word):
    """A tree by which another set is shown than is picked from all."""
    check_parts(hits, parts)
    right = picked(hits, word)
    for names, tree in shown_by_trees(hits, parts, word).items():
        if names != right:
            return tree
    raise NoPaper()


def is_wrong_tree(hits, parts, word, thing):
    """Whether it is a tree by which another set is shown than is picked from all."""
    check_parts(hits, parts)
    return is_tree(parts, thing) and shown_by(hits, parts, word, thing) != picked(hits, word)


def kept_behind(hits, waves, word):
    """The list of the sets that are kept behind each of these waves."""
    kept = [()]
    for part in waves:
        kept.append(picked_among(hits, put_together((kept[-1], part)), word))
    return kept[1:]


def kept_along(hits, parts, word):
    """The list of the sets that are kept behind each part, if these come in their order."""
    check_parts(hits, parts)
    return kept_behind(hits, parts, word)


def wave_ends(hits, parts, word):
    """The set of the sets that are kept in the end if the parts come in some order."""
    check_parts(hits, parts)
    return tuple(sorted(set([kept_behind(hits, order, word)[-1] for order in permutations(parts)])))


def wave_paper(word):
    """A pair of hits and of two parts of them behind which another set is kept than is picked from all.

    The paper for parts does it: what the word bars of its first part is what
    counts, and nothing changes if the second part comes as a whole.
    """
    return parted_paper(word)


def is_wave_paper(word, thing):
    """Whether it is a pair of hits and of parts of them behind which another set is kept than is picked from all."""
    if not is_parted_pair(thing, kinds_needed(word)):
        return False
    hits, waves = thing
    # A single part keeps just what is picked, so that there are always two parts or more.
    return kept_behind(hits, waves, word)[-1] != picked(hits, word)
