"""Trees: crossings that are joined by roads."""

from onetrain.errors import BadCount, NoCrossing, RingRoad

LEAST_CROSSINGS = 2
MOST_CROSSINGS = 24
LONGEST_ROAD = 10 ** 9


class Road:
    """A road of `length` steps that joins the crossings `a` and `b`."""

    def __init__(self, a, b, length):
        self.a = a
        self.b = b
        self.length = length

    def __eq__(self, other):
        return isinstance(other, Road) and self.a == other.a and self.b == other.b and self.length == other.length


class Tree:
    """Crossings, numbered from 0, that roads, numbered from 0, join without rings.

    Besides its two fields a tree keeps `trails`: for each pair of crossings
    the numbers of the roads on the way from the first to the second, in order.
    Every path needs them, so they are found once.
    """

    def __init__(self, crossings, roads):
        if not LEAST_CROSSINGS <= crossings <= MOST_CROSSINGS:
            raise BadCount("crossings", crossings)
        if len(roads) != crossings - 1:
            raise BadCount("roads", len(roads))
        self.crossings = crossings
        self.roads = tuple(roads)
        self.trails = trails_along(crossings, self.roads)

    def __eq__(self, other):
        return isinstance(other, Tree) and self.crossings == other.crossings and self.roads == other.roads


def trails_along(crossings, roads):
    """Return the trails of all pairs of crossings, or raise the error of the first invalid road."""
    trails = {(crossing, crossing): () for crossing in range(crossings)}
    for number, road in enumerate(roads):
        check_road(crossings, road)
        if (road.a, road.b) in trails:
            raise RingRoad(number)
        join_trails(trails, crossings, number, road)
    return trails


def check_road(crossings, road):
    """Raise the error of a road that cannot belong to a tree with so many crossings."""
    for crossing in (road.a, road.b):
        if not 0 <= crossing < crossings:
            raise NoCrossing(crossing)
    if not 1 <= road.length <= LONGEST_ROAD:
        raise BadCount("length", road.length)


def join_trails(trails, crossings, number, road):
    """Add the trails that lead over a new road, in both directions."""
    heads = [crossing for crossing in range(crossings) if (crossing, road.a) in trails]
    tails = [crossing for crossing in range(crossings) if (road.b, crossing) in trails]
    for head in heads:
        for tail in tails:
            trail = trails[head, road.a] + (number,) + trails[road.b, tail]
            trails[head, tail] = trail
            trails[tail, head] = trail[::-1]


def end_at(road, crossing):
    """Return how many steps from its end `a` a road meets a crossing at one of its ends."""
    return 0 if road.a == crossing else road.length


def end_beyond(road, crossing):
    """Return the crossing at the other end of a road."""
    return road.b if road.a == crossing else road.a
