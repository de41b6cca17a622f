"""A book of rows by name, people who march by them, and claims about which rows are alike."""

from onetrain.alike import Alike, held
from onetrain.errors import BadCount, NoBack, NoName, NoRow
from onetrain.marches import Row, after
from onetrain.places import key

LETTERS = "abcdefghijklmnopqrstuvwxyz"
DIGITS = "0123456789"
LONGEST_NAME = 8
MOST_ROWS = 8
MOST_FOLK = 24


class Book:
    """Rows by name, the keys of people, and claims, with all earlier states to go back to.

    A change makes new values and leaves the old ones as they are, so that an
    earlier state can be kept as a tuple of them.
    """

    def __init__(self, tree):
        self.tree = tree
        self.kept = {}
        self.folk = []
        self.answers = {}
        self.past = []

    def keep(self, name, marches):
        """Store a row under a name."""
        if not is_name(name):
            raise NoName(name)
        if name not in self.kept and len(self.kept) >= MOST_ROWS:
            raise BadCount("rows", MOST_ROWS + 1)
        made = Row(self.tree, marches)
        if name not in self.kept or self.kept[name] != made:
            kept = dict(self.kept)
            kept[name] = made
            self.change(kept, self.folk, answers_without(self.answers, name))

    def drop(self, name):
        """Remove a row, and the claims about it."""
        check_kept(self.kept, name)
        kept = {one: self.kept[one] for one in self.kept if one != name}
        self.change(kept, self.folk, answers_without(self.answers, name))

    def row(self, name):
        """Return the row with this name."""
        check_kept(self.kept, name)
        return self.kept[name]

    def names(self):
        """Return all names in ascending order."""
        return sorted(self.kept)

    def post(self, place):
        """Add a person at a place and return their number."""
        there = key(self.tree, place)
        if len(self.folk) >= MOST_FOLK:
            raise BadCount("folk", MOST_FOLK + 1)
        number = len(self.folk)
        self.change(self.kept, self.folk + [there], self.answers)
        return number

    def call(self, name):
        """Move all people by one pass of a row."""
        called = self.row(name)
        moved = [after(called, place) for place in self.folk]
        if moved != self.folk:
            self.change(self.kept, moved, self.answers)

    def where(self):
        """Return the keys of all people."""
        return list(self.folk)

    def claim(self, name, other):
        """Return whether two rows are alike, and store this as a claim."""
        ours = self.row(name)
        theirs = self.row(other)
        result = held(ours, theirs) == Alike()
        pair = (min(name, other), max(name, other))
        if pair not in self.answers:
            answers = {one: self.answers[one] for one in self.answers}
            answers[pair] = result
            self.change(self.kept, self.folk, answers)
        return result

    def claims(self):
        """Return all claims as a sorted list of (name, other, result)."""
        return [(name, other, self.answers[name, other]) for name, other in sorted(self.answers)]

    def many(self):
        """Return the number of changes that can be undone."""
        return len(self.past)

    def back(self):
        """Undo the last change."""
        if not self.past:
            raise NoBack()
        self.kept, self.folk, self.answers = self.past.pop()

    def change(self, kept, folk, answers):
        """Go over to another state, and remember this one."""
        self.past.append((self.kept, self.folk, self.answers))
        self.kept = kept
        self.folk = folk
        self.answers = answers


def is_name(name):
    """Return whether a name is valid."""
    if not 1 <= len(name) <= LONGEST_NAME or name[0] not in LETTERS:
        return False
    return all([mark in LETTERS or mark in DIGITS for mark in name])


def check_kept(kept, name):
    """Raise the error of a name that is not in use."""
    if name not in kept:
        raise NoRow(name)


def answers_without(answers, name):
    """Return the answers about pairs of rows that do not include this one."""
    return {pair: answers[pair] for pair in answers if name not in pair}
