"""Marches, rows of them, and where they lead one person."""

from onetrain.errors import BadCount, NotWhole
from onetrain.places import check_place, key, step

MOST_MARCHES = 24
MOST_STEPS = 10 ** 9
MOST_ROUNDS = 1000


class March:
    """All people move `steps` steps towards the place `goal`, and stop there."""

    def __init__(self, goal, steps):
        self.goal = goal
        self.steps = steps

    def __eq__(self, other):
        return isinstance(other, March) and self.goal == other.goal and self.steps == other.steps


class Row:
    """Marches on one tree, in the order in which they are done."""

    def __init__(self, tree, marches):
        if len(marches) > MOST_MARCHES:
            raise BadCount("marches", len(marches))
        for number, march in enumerate(marches):
            check_march(tree, number, march)
        self.tree = tree
        self.marches = tuple(marches)

    def __eq__(self, other):
        return isinstance(other, Row) and self.tree == other.tree and keyed(self) == keyed(other)


def check_march(tree, number, march):
    """Raise the error of a march that cannot be the one with this number in a row."""
    check_place(tree, march.goal)
    if march.goal.parts != 1:
        raise NotWhole(number)
    if not 1 <= march.steps <= MOST_STEPS:
        raise BadCount("steps", march.steps)


def check_round(row):
    """Raise the error of a row that cannot be repeated, because it has no marches."""
    if not row.marches:
        raise BadCount("marches", 0)


def keyed(row):
    """Return the marches of a row with keys as goals, so that equal positions are equal goals."""
    return [March(key(row.tree, march.goal), march.steps) for march in row.marches]


def after(row, place, *, rounds=1):
    """Return the key of the position of a person from `place`, after so many rounds of the row."""
    there = key(row.tree, place)
    if not 0 <= rounds <= MOST_ROUNDS:
        raise BadCount("rounds", rounds)
    for _ in range(rounds):
        for march in row.marches:
            there = step(row.tree, there, march.goal, march.steps)
    return there
