"""The train: the positions that two rounds of a row leave in place."""

from onetrain.doings import is_gathered, stretches_after
from onetrain.marches import check_round
from onetrain.places import Place, is_before, key, step, steps_between


class Train:
    """The path from `one` to `other`, which each round leaves in place or, if `is_turned`, reverses.

    `stands` holds where the two ends are before each march and after the last.
    """

    def __init__(self, one, other, is_turned, stands):
        self.one = one
        self.other = other
        self.is_turned = is_turned
        self.stands = [tuple(pair) for pair in stands]

    def __eq__(self, other):
        return (isinstance(other, Train) and self.one == other.one and self.other == other.other
                and self.is_turned == other.is_turned and self.stands == other.stands)


def train(row):
    """Return the train of a row."""
    check_round(row)
    twice = stretches_after(row.tree, row.marches + row.marches)
    still = [place for stretch in twice for place in still_places(row.tree, stretch)]
    one = farthest(row.tree, still, still[0])
    other = farthest(row.tree, still, one)
    if is_before(other, one):
        one, other = other, one
    stands = stands_of(row, one, other)
    return Train(one, other, stands[-1][0] != one, stands)


def still_places(tree, stretch):
    """Return the keys in a stretch that are moved to themselves, among which are all ends of the train there.

    An end of the train is an end of stretches, because a moving stretch goes
    on beyond any other place as it came: only a train of one position may lie
    inside a stretch, and then all of the stretch is moved to it.
    """
    start = key(tree, Place(stretch.road, stretch.least, 1))
    end = key(tree, Place(stretch.road, stretch.greatest, 1))
    found = []
    if start == stretch.first:
        found.append(start)
    if end == stretch.last:
        found.append(end)
    if is_gathered(stretch) and is_inside(stretch, stretch.first):
        found.append(stretch.first)
    return found


def is_inside(stretch, place):
    """Return whether a whole place lies between the ends of a stretch of road."""
    return place.road == stretch.road and stretch.least < place.number < stretch.greatest


def farthest(tree, places, start):
    """Return the first of the whole places that is as far from a start as any."""
    return max(places, key=lambda place: steps_between(tree, start, place))


def stands_of(row, one, other):
    """Return where two people are before each march of a row and after the last, as pairs."""
    stands = [(one, other)]
    for march in row.marches:
        one = step(row.tree, one, march.goal, march.steps)
        other = step(row.tree, other, march.goal, march.steps)
        stands.append((one, other))
    return stands


def is_train(row, paper):
    """Return whether a paper describes the train of a row.

    Exactly one paper does. Two rounds leave the ends that it must state in
    place, and with them all between; and nothing beside these ends, so that
    the path between them is all of the train.
    """
    return paper == train(row)
