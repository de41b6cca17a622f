"""All that a row does, as stretches of road that are moved in one piece."""

from onetrain.errors import Wide
from onetrain.marches import after
from onetrain.places import Place, corner, shared_steps, step, steps_between

MOST_STRETCHES = 400


class Stretch:
    """The positions of a road from `least` to `greatest`, moved onto the path from `first` to `last`."""

    def __init__(self, road, least, greatest, first, last):
        self.road = road
        self.least = least
        self.greatest = greatest
        self.first = first
        self.last = last

    def __eq__(self, other):
        return (isinstance(other, Stretch) and self.road == other.road
                and self.least == other.least and self.greatest == other.greatest
                and self.first == other.first and self.last == other.last)


def doing(row):
    """Return everything that a row does, as the one list of longest stretches."""
    return stretches_after(row.tree, row.marches)


def stretches_after(tree, marches):
    """Return the longest stretches for marches on a tree, of which there may be more than a row holds."""
    found = [
        Stretch(number, 0, road.length, corner(tree, road.a), corner(tree, road.b))
        for number, road in enumerate(tree.roads)
    ]
    for march in marches:
        found = joined(tree, [part for stretch in found for part in marched(tree, stretch, march)])
        if len(found) > MOST_STRETCHES:
            raise Wide(MOST_STRETCHES + 1)
    return found


def marched(tree, stretch, march):
    """Return the stretches, not always the longest, that a stretch becomes by one more march."""
    if is_gathered(stretch):
        there = step(tree, stretch.first, march.goal, march.steps)
        return [Stretch(stretch.road, stretch.least, stretch.greatest, there, there)]
    marks = marks_of(tree, stretch, march)
    return [
        Stretch(stretch.road, stretch.least + start, stretch.least + end, first, last)
        for (start, first), (end, last) in zip(marks, marks[1:])
        if start < end
    ]


def marks_of(tree, stretch, march):
    """Return where a march cuts a moving stretch, as rows (steps from its start, image), ends included."""
    size = stretch.greatest - stretch.least
    ahead = steps_between(tree, stretch.first, march.goal)
    behind = steps_between(tree, stretch.last, march.goal)
    # The image so far leads towards the goal for `turn` steps, then away from
    # it. All of it that is nearer than the steps of the march ends in the
    # goal; if nothing is, both cuts fall on the turn, where the image folds.
    turn = (size + ahead - behind) // 2
    low = min(turn, max(0, ahead - march.steps))
    high = max(turn, min(size, size - behind + march.steps))
    from_first = [(at, step(tree, stretch.first, march.goal, at + march.steps)) for at in (0, low)]
    from_last = [(at, step(tree, stretch.last, march.goal, size - at + march.steps)) for at in (high, size)]
    return from_first + from_last


def is_gathered(stretch):
    """Return whether a stretch is moved to one position."""
    return stretch.first == stretch.last


def joined(tree, stretches):
    """Return the longest stretches that say the same as these."""
    found = []
    for stretch in stretches:
        if found and is_one(tree, found[-1], stretch):
            start = found[-1]
            found[-1] = Stretch(start.road, start.least, stretch.greatest, start.first, stretch.last)
        else:
            found.append(stretch)
    return found


def is_one(tree, one, other):
    """Return whether a stretch and the one behind it are moved in one piece."""
    if one.road != other.road or is_gathered(one) != is_gathered(other):
        return False
    # Two paths, end to end, are one path unless the second turns back.
    return is_gathered(one) or steps_between(tree, one.first, other.last) == other.greatest - one.least


def is_doing(row, stretches):
    """Return whether stretches, not always the longest, describe everything that a row does."""
    return is_cover(row.tree, stretches) and all([is_moved(row, stretch) for stretch in stretches])


def is_cover(tree, stretches):
    """Return whether stretches cover each road from end to end, in order."""
    road = 0
    covered = 0
    for stretch in stretches:
        if road == len(tree.roads) or stretch.road != road or stretch.least != covered:
            return False
        if not covered < stretch.greatest <= tree.roads[road].length:
            return False
        covered = stretch.greatest
        if covered == tree.roads[road].length:
            road += 1
            covered = 0
    return road == len(tree.roads)


def is_moved(row, stretch):
    """Return whether a row moves a stretch of one of its roads as the stretch states."""
    start = Place(stretch.road, stretch.least, 1)
    end = Place(stretch.road, stretch.greatest, 1)
    if after(row, start) != stretch.first or after(row, end) != stretch.last:
        return False
    if is_gathered(stretch):
        return is_drawn_together(row, start, end)
    # No march makes a distance longer. So if the ends are as far apart as
    # before, every position between them is still at its distance from both.
    return steps_between(row.tree, stretch.first, stretch.last) == stretch.greatest - stretch.least


def is_drawn_together(row, start, end):
    """Return whether a row moves all positions between two whole places to one position.

    The image of the path between them is at all times the part of the tree
    between a few tips. A march moves that part onto the part between the
    images of its tips and of its position that is nearest to the goal.
    """
    tips = [start, end]
    for march in row.marches:
        nearest = nearest_between(row.tree, tips, march.goal)
        moved = []
        for tip in tips + [nearest]:
            there = step(row.tree, tip, march.goal, march.steps)
            if there not in moved:
                moved.append(there)
        tips = moved
    return len(tips) == 1


def nearest_between(tree, tips, goal):
    """Return the position nearest to a goal in the part of the tree between whole places."""
    inside = max([shared_steps(tree, tips[0], tip, goal) for tip in tips])
    return step(tree, tips[0], goal, inside)
