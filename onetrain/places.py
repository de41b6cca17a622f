"""Places on the roads of a tree, and the paths between them."""

from math import gcd, lcm

from onetrain.errors import BadCount, NoCrossing, NoRoad, OffRoad
from onetrain.trees import end_at, end_beyond


class Place:
    """The place that is `number / parts` steps from the end `a` of a road, in lowest terms."""

    def __init__(self, road, number, parts):
        if parts < 1:
            raise BadCount("parts", parts)
        shared = gcd(number, parts)
        self.road = road
        self.number = number // shared
        self.parts = parts // shared

    def __eq__(self, other):
        return (isinstance(other, Place) and self.road == other.road
                and self.number == other.number and self.parts == other.parts)


def check_place(tree, place):
    """Raise the error of a place that the tree does not have."""
    if not 0 <= place.road < len(tree.roads):
        raise NoRoad(place.road)
    if not 0 <= place.number <= tree.roads[place.road].length * place.parts:
        raise OffRoad(place.road)


def key(tree, place):
    """Return the one place that stands for the position of `place` in results."""
    check_place(tree, place)
    road = tree.roads[place.road]
    if place.number == 0:
        return corner(tree, road.a)
    if place.number == road.length * place.parts:
        return corner(tree, road.b)
    return place


def corner(tree, crossing):
    """Return the key of a crossing: its place on the lowest-numbered road that ends there."""
    if not 0 <= crossing < tree.crossings:
        raise NoCrossing(crossing)
    number = min([at for at, road in enumerate(tree.roads) if crossing in (road.a, road.b)])
    return Place(number, end_at(tree.roads[number], crossing), 1)


def is_before(one, other):
    """Return whether one key comes before another: by road, then by distance."""
    if one.road != other.road:
        return one.road < other.road
    return one.number * other.parts < other.number * one.parts


def distance(tree, one, other):
    """Return the length of the path between two places as a pair (top, bottom) in lowest terms."""
    check_place(tree, one)
    check_place(tree, other)
    parts = lcm(one.parts, other.parts)
    top = sum([abs(end - start) for number, start, end in legs(tree, one, other, parts)])
    shared = gcd(top, parts)
    return (top // shared, parts // shared)


def steps_between(tree, one, other):
    """Return the distance between two whole places."""
    return distance(tree, one, other)[0]


def shared_steps(tree, start, one, other):
    """Return how many steps the paths from a whole place to two others have in common."""
    both = steps_between(tree, start, one) + steps_between(tree, start, other)
    return (both - steps_between(tree, one, other)) // 2


def step(tree, place, goal, steps):
    """Return the key of the place that is `steps` steps from `place` towards `goal`, at most at `goal`."""
    check_place(tree, place)
    check_place(tree, goal)
    if steps < 0:
        raise BadCount("steps", steps)
    parts = lcm(place.parts, goal.parts)
    left = steps * parts
    for number, start, end in legs(tree, place, goal, parts):
        size = abs(end - start)
        if left <= size:
            at = start + left if start < end else start - left
            return key(tree, Place(number, at, parts))
        left -= size
    return key(tree, goal)


def legs(tree, one, other, parts):
    """Return the path between two places as rows (road, start, end), one for each road.

    `start` and `end` count parts of a step, `parts` to the step, from the
    road's end `a`; so they are integers for both places.
    """
    start = one.number * (parts // one.parts)
    end = other.number * (parts // other.parts)
    if one.road == other.road:
        return [(one.road, start, end)]
    first = tree.roads[one.road]
    last = tree.roads[other.road]
    trail = tree.trails[first.a, last.a]
    # The trail starts at the end `a` of the first road: where it runs along
    # that road, the place is on it already, and the path leaves by `b`.
    here = first.b if one.road in trail else first.a
    found = [(one.road, start, end_at(first, here) * parts)]
    for number in trail:
        if number not in (one.road, other.road):
            road = tree.roads[number]
            there = end_beyond(road, here)
            found.append((number, end_at(road, here) * parts, end_at(road, there) * parts))
            here = there
    found.append((other.road, end_at(last, here) * parts, end))
    return found
