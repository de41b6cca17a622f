"""A slow second way to find distances and steps: counting single small steps.

Each road is cut into pieces of 1 / parts steps, and a search over the ends of
the pieces counts them. It shares no code with the package.
"""

from fractions import Fraction
from itertools import product


class Net:
    """All points of a tree that are 1 / parts steps apart."""

    def __init__(self, crossings, roads, parts):
        self.roads = roads
        self.parts = parts
        self.beside = {}
        self.names = {}
        for road, (a, b, length) in enumerate(roads):
            for at in range(length * parts):
                one, other = self.spot(road, at), self.spot(road, at + 1)
                self.beside.setdefault(one, []).append(other)
                self.beside.setdefault(other, []).append(one)
            for at in range(length * parts + 1):
                self.names.setdefault(self.spot(road, at), (road, Fraction(at, parts)))

    def spot(self, road, at):
        a, b, length = self.roads[road]
        if at == 0:
            return ("crossing", a)
        if at == length * self.parts:
            return ("crossing", b)
        return (road, at)

    def of(self, road, where):
        at = where * self.parts
        assert at.denominator == 1
        return self.spot(road, at.numerator)

    def counts_to(self, goal):
        counts = {goal: 0}
        waiting = [goal]
        for spot in waiting:
            for near in self.beside[spot]:
                if near not in counts:
                    counts[near] = counts[spot] + 1
                    waiting.append(near)
        return counts

    def walk(self, spot, counts, times):
        for _ in range(times):
            nearer = [near for near in self.beside[spot] if counts[near] < counts[spot]]
            if not nearer:
                return spot
            spot, = nearer
        return spot


def labelled_trees(crossings):
    """All trees over the numbered crossings, as lists of pairs."""
    for code in product(range(crossings), repeat=crossings - 2):
        degree = [1 + code.count(crossing) for crossing in range(crossings)]
        pairs = []
        for crossing in code:
            leaf = degree.index(1)
            pairs.append((leaf, crossing))
            degree[leaf] -= 1
            degree[crossing] -= 1
        pairs.append(tuple(crossing for crossing in range(crossings) if degree[crossing] == 1))
        yield pairs


def varied_roads(pairs, turn):
    """The pairs as (a, b, length), in an order and with directions that depend on `turn`."""
    pairs = pairs[turn % len(pairs):] + pairs[:turn % len(pairs)]
    return [
        (pair[::-1] if (turn >> at) & 1 else pair) + ((turn + at) % 3 + 1,)
        for at, pair in enumerate(pairs)
    ]
