"""Pickers by tables: what they pick, whether that is the same in pieces, and pieces that show that it is not."""

from partpicks.errors import NoName, NoPaper
from partpicks.hits import all_sets, names_of, put_together, without_names
from partpicks.parted import picked_among
from partpicks.things import is_ascending, is_name_set


def has_all(some, names):
    """Whether all these names are in the set."""
    return all([name in some for name in names])


def is_row(names, thing):
    """Whether it is a pair of a menu of these names and of a set of names of the menu."""
    if not (isinstance(thing, tuple) and len(thing) == 2 and all([is_name_set(some) for some in thing])):
        return False
    menu, some = thing
    return len(menu) >= 1 and has_all(names, menu) and has_all(menu, some)


def is_picker(thing):
    """Whether it is a pair of names and of a row for each menu of them."""
    if not (isinstance(thing, tuple) and len(thing) == 2 and is_name_set(thing[0]) and isinstance(thing[1], tuple)):
        return False
    names, rows = thing
    # So many rows of unlike menus are all that there are; to make all menus of many names would take too long.
    if not names or len(rows) != (1 << len(names)) - 1:
        return False
    return all([is_row(names, row) for row in rows]) and is_ascending([row[0] for row in rows])


def table_of(picker):
    """For each set of the names of the picker, () among them, what is picked from it."""
    table = {(): ()}
    for menu, some in picker[1]:
        table[tuple(menu)] = tuple(some)
    return table


def picked_from(picker, some):
    """What is picked from this set."""
    for name in some:
        if name not in picker[0]:
            raise NoName(name)
    return table_of(picker)[tuple(some)]


def picker_of(hits, word):
    """The picker that picks from each set of names of the hits what the word picks of these."""
    names = names_of(hits)
    return (names, tuple([(menu, picked_among(hits, menu, word)) for menu in all_sets(names)[1:]]))


def lesser_sets(menu):
    """The ascending list of the sets of names of the menu that have not all of them."""
    return [less for less in all_sets(menu) if less != menu]


def heritage_breaks(picker):
    """The ascending list of the triples of a menu, a lesser one, and a name that is picked from the first one alone."""
    table = table_of(picker)
    breaks = []
    for menu, some in table.items():
        for less in lesser_sets(menu):
            breaks.extend([(menu, less, name) for name in some if name in less and name not in table[less]])
    return sorted(breaks)


def has_heritage(picker):
    """Whether whoever is picked of many is picked of fewer."""
    return not heritage_breaks(picker)


def outcast_breaks(picker):
    """The ascending list of the pairs of a menu and of a lesser one, with all picked of it, that tells other ones."""
    table = table_of(picker)
    breaks = []
    for menu, some in table.items():
        breaks.extend([(menu, less) for less in lesser_sets(menu) if has_all(less, some) and table[less] != some])
    return sorted(breaks)


def has_outcast(picker):
    """Whether what is picked does not hang on those that are not."""
    return not outcast_breaks(picker)


def is_against(table, one, other):
    """Whether what is picked from two sets, put together and picked from, is not what is picked from both together."""
    return table[put_together((table[one], table[other]))] != table[put_together((one, other))]


def has_no_common(one, other):
    """Whether no name is in both sets."""
    return without_names(one, other) == one


def covers_against(picker):
    """The list of the pairs of sets by which, as covers, the picker is not the same."""
    table = table_of(picker)
    sets = sorted(table)
    return [(one, other) for one in sets for other in sets if is_against(table, one, other)]


def cuts_against(picker):
    """The list of the pairs of sets without a common name by which the picker is not the same."""
    return [(one, other) for one, other in covers_against(picker) if has_no_common(one, other)]


def is_same_by_covers(picker):
    """Whether it is the same by all covers; two sets show it if it is not."""
    return not covers_against(picker)


def is_same_by_cuts(picker):
    """Whether it is the same by all cuts; two sets show it if it is not."""
    return not cuts_against(picker)


def cover_against(picker):
    """A pair of sets by which, as covers, it is not the same."""
    pairs = covers_against(picker)
    if not pairs:
        raise NoPaper()
    return pairs[0]


def cut_against(picker):
    """A pair of sets without a common name by which it is not the same."""
    pairs = cuts_against(picker)
    if not pairs:
        raise NoPaper()
    return pairs[0]


def is_cover_against(picker, thing):
    """Whether it is a pair of sets of names of the picker by which, as covers, this is not the same."""
    if not (isinstance(thing, tuple) and len(thing) == 2 and all([is_name_set(some) for some in thing])):
        return False
    one, other = thing
    return has_all(picker[0], one + other) and is_against(table_of(picker), one, other)


def is_cut_against(picker, thing):
    """Whether it is such a pair of sets without a common name."""
    return is_cover_against(picker, thing) and has_no_common(thing[0], thing[1])


def wide_sets(picker):
    """The ascending list of the sets to which no other name can be put without that another set is picked."""
    table = table_of(picker)
    wide = []
    for some in sorted(table):
        greater = [put_together((some, (name,))) for name in picker[0] if name not in some]
        if all([table[more] != table[some] for more in greater]):
            wide.append(some)
    return wide
