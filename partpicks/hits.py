"""Hits: what they are, what they tell, and other hits made of them."""

from partpicks.errors import NoKind, NoName, Twice
from partpicks.things import is_ascending, is_name, is_name_set, is_number


def is_labels(thing):
    """Whether it is a tuple of one to three names."""
    return isinstance(thing, tuple) and 1 <= len(thing) <= 3 and all([is_name(label) for label in thing])


def is_hit(thing):
    """Whether it is a triple (name, score, labels)."""
    if not (isinstance(thing, tuple) and len(thing) == 3):
        return False
    name, score, labels = thing
    return is_name(name) and is_number(score) and is_labels(labels)


def is_hits(thing):
    """Whether it is an ascending tuple of hits with unlike names and equally many labels."""
    if not (isinstance(thing, tuple) and all([is_hit(hit) for hit in thing])):
        return False
    return is_ascending(names_of(thing)) and all([len(hit[2]) == kinds(thing) for hit in thing])


def is_parts(hits, thing):
    """Whether it is a tuple of one or more sets of names, with each hit in just one of them."""
    if not (isinstance(thing, tuple) and thing and all([is_name_set(part) for part in thing])):
        return False
    names = []
    for part in thing:
        names.extend(part)
    return sorted(names) == list(names_of(hits))


def names_of(hits):
    """The set of the names of the hits."""
    return tuple([hit[0] for hit in hits])


def name_set(some_hits):
    """The set of the names of hits that stand in any order."""
    return tuple(sorted([hit[0] for hit in some_hits]))


def put_together(sets):
    """The set of the names that are in these sets."""
    names = []
    for some in sets:
        names.extend(some)
    return tuple(sorted(set(names)))


def without_names(some, others):
    """The set of the names that are in the first set and not in the other one."""
    return tuple([name for name in some if name not in others])


def in_each(sets):
    """The set of the names that are in each of these sets, one or more of them."""
    return tuple([name for name in sets[0] if all([name in some for some in sets])])


def all_sets(names):
    """The ascending list of all sets of these names, which are a set themselves."""
    sets = [()]
    for name in names:
        sets = sets + [some + (name,) for some in sets]
    return sorted(sets)


def hit_of(hits, name):
    """The hit with this name, as it was handed in."""
    for hit in hits:
        if hit[0] == name:
            return hit
    raise NoName(name)


def score_of(hits, name):
    """The score of the hit with this name."""
    return hit_of(hits, name)[1]


def labels_of(hits, name):
    """The labels of the hit with this name."""
    return tuple(hit_of(hits, name)[2])


def kinds(hits):
    """How many labels each hit has; 0 if there is no hit."""
    if not hits:
        return 0
    return len(hits[0][2])


def check_kind(hits, kind):
    """Raise NoKind unless the hits have labels of this kind."""
    if not 0 <= kind < kinds(hits):
        raise NoKind(kind)


def labels_in(hits, kind):
    """The set of the labels of this kind."""
    check_kind(hits, kind)
    return tuple(sorted(set([hit[2][kind] for hit in hits])))


def with_label(hits, kind, label):
    """The set of the hits with this label of this kind."""
    check_kind(hits, kind)
    return tuple([hit[0] for hit in hits if hit[2][kind] == label])


def ranked(hits):
    """The list of the hits, the best one first."""
    return sorted(hits, key=lambda hit: (-hit[1], hit[0]))


def best_first(hits):
    """The tuple of all names, the best hit first."""
    return tuple([hit[0] for hit in ranked(hits)])


def better(hits, name):
    """The set of the hits that are better than the one with this name."""
    hit_of(hits, name)
    order = best_first(hits)
    return tuple(sorted(order[:order.index(name)]))


def own_hits(hits):
    """The same hits, made of tuples throughout."""
    return tuple([(name, score, tuple(labels)) for name, score, labels in hits])


def with_hit(hits, name, score, labels):
    """The hits with one more."""
    if name in names_of(hits):
        raise Twice(name)
    return tuple(sorted(own_hits(hits) + ((name, score, tuple(labels)),)))


def without_hit(hits, name):
    """The hits without the one with this name."""
    hit_of(hits, name)
    return own_hits([hit for hit in hits if hit[0] != name])


def part_of(hits, some):
    """The hits with these names."""
    for name in some:
        hit_of(hits, name)
    return own_hits([hit for hit in hits if hit[0] in some])


def raised(hits, number):
    """The hits with each score so much greater."""
    return own_hits([(name, score + number, labels) for name, score, labels in hits])


def renamed_hits(hits, pairs):
    """The hits with the second name of each pair in the place of the first one, all at once."""
    later = {old: new for old, new in pairs}
    return tuple(sorted([(later.get(name, name), score, labels) for name, score, labels in own_hits(hits)]))
