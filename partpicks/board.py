"""A board: hits that come, go and move between machines, a word that changes, and all of it taken back."""

from partpicks.errors import NoNumber, NothingDone
from partpicks.hits import names_of, put_together, with_hit, without_hit, without_names
from partpicks.parted import picked_parted
from partpicks.send import picked_of
from partpicks.words import own_word


def parts_without(parts, name):
    """The parts without this name."""
    return tuple([without_names(part, (name,)) for part in parts])


def parts_with(parts, name, machine):
    """The parts with this name in the one with this number alone."""
    rows = list(parts_without(parts, name))
    rows[machine] = put_together((rows[machine], (name,)))
    return tuple(rows)


def machine_of(parts, name):
    """The number of the part in which this name is."""
    return [name in part for part in parts].index(True)


def check_machine(parts, machine):
    """Raise NoNumber unless there is a part with this number."""
    if not 0 <= machine < len(parts):
        raise NoNumber(machine)


class Board:
    """A word, and hits that lie on machines; it can take back what was done."""

    def __init__(self, word, machines):
        # What is kept is made of tuples alone: so a copy of it is never needed.
        self._now = (own_word(word), (), ((),) * machines)
        self._past = []

    def __eq__(self, other):
        return isinstance(other, Board) and self._now == other._now

    def __len__(self):
        return len(self._now[1])

    def _turn(self, word, hits, parts):
        """Keep these from now on, and what was kept to be taken back."""
        self._past.append(self._now)
        self._now = (word, hits, parts)

    def word(self):
        """The word."""
        return self._now[0]

    def hits(self):
        """The hits."""
        return self._now[1]

    def parts(self):
        """The parts, a set for each machine."""
        return self._now[2]

    def picked(self):
        """The set of the names that are picked from all hits, on whichever machine."""
        return picked_of(self.hits(), self.parts(), self.word())

    def shown(self):
        """The set of the names that are picked parted."""
        return picked_parted(self.hits(), self.parts(), self.word())

    def lost(self):
        """The set of the names that are picked from all hits and not shown."""
        return without_names(self.picked(), self.shown())

    def come(self, name, score, labels, machine):
        """Put one more hit on this machine; whether it is shown then."""
        hits = with_hit(self.hits(), name, score, labels)
        check_machine(self.parts(), machine)
        parts = parts_with(self.parts(), name, machine)
        names = picked_parted(hits, parts, self.word())
        self._turn(self.word(), hits, parts)
        return name in names

    def go(self, name):
        """Take this hit away; the set of the names that are shown then and were not ahead of it."""
        hits = without_hit(self.hits(), name)
        ahead = self.shown()
        self._turn(self.word(), hits, parts_without(self.parts(), name))
        return without_names(self.shown(), ahead)

    def move(self, name, machine):
        """Put this hit on this machine; the machine on which it lay."""
        hits = self.hits()
        # A name that no hit has lies nowhere, which comes ahead of a wrong machine.
        without_hit(hits, name)
        check_machine(self.parts(), machine)
        ahead = machine_of(self.parts(), name)
        self._turn(self.word(), hits, parts_with(self.parts(), name, machine))
        return ahead

    def change(self, word):
        """Take this word; the one that it was."""
        ahead = self.word()
        self._turn(own_word(word), self.hits(), self.parts())
        return ahead

    def gather(self):
        """Put all hits on machine 0."""
        rest = ((),) * (len(self.parts()) - 1)
        self._turn(self.word(), self.hits(), (names_of(self.hits()),) + rest)

    def undo(self):
        """Take back the last deed that was not taken back."""
        if not self._past:
            raise NothingDone()
        self._now = self._past.pop()

    def deeds(self):
        """How many deeds can be taken back."""
        return len(self._past)

    def twin(self):
        """A new board that is like this one and shares nothing with it."""
        other = Board(self.word(), len(self.parts()))
        other._now = self._now
        other._past = list(self._past)
        return other
