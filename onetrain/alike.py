"""Whether two rows do the same, and the first place where they do not."""

from onetrain.doings import doing
from onetrain.errors import OtherTree
from onetrain.places import Place, shared_steps, step


class Alike:
    """Two rows move every position to the same position."""

    def __eq__(self, other):
        return isinstance(other, Alike)


class Parted:
    """Two rows move the whole place `place` apart: the first to `ours`, the second to `theirs`."""

    def __init__(self, place, ours, theirs):
        self.place = place
        self.ours = ours
        self.theirs = theirs

    def __eq__(self, other):
        return (isinstance(other, Parted) and self.place == other.place
                and self.ours == other.ours and self.theirs == other.theirs)


def held(row, other):
    """Return Alike() for rows that do the same, else Parted(..) with the first whole place that tells them apart."""
    if row.tree != other.tree:
        raise OtherTree()
    ours = doing(row)
    theirs = doing(other)
    at = index = 0
    # Both lists cover the same roads, so their stretches reach the end of a
    # road together, and the two at hand always overlap on one road.
    while at < len(ours):
        our = ours[at]
        their = theirs[index]
        number = first_parting(row.tree, our, their)
        if number is not None:
            return Parted(Place(our.road, number, 1), image(row.tree, our, number), image(row.tree, their, number))
        at += 1 if our.greatest <= their.greatest else 0
        index += 1 if their.greatest <= our.greatest else 0
    return Alike()


def first_parting(tree, our, their):
    """Return the first whole number of steps at which two stretches that overlap part, or None."""
    least = max(our.least, their.least)
    greatest = min(our.greatest, their.greatest)
    start = image(tree, our, least)
    if image(tree, their, least) != start:
        return least
    one = image(tree, our, greatest)
    other = image(tree, their, greatest)
    if one == other:
        return None
    # From equal starts both images go together as far as their paths do.
    return least + shared_steps(tree, start, one, other) + 1


def image(tree, stretch, number):
    """Return where a stretch moves the place that is `number` steps along its road."""
    return step(tree, stretch.first, stretch.last, number - stretch.least)
