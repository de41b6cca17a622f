"""A slow second way to find distances, steps and all that a row does: by counting single small steps.

Each road is cut into pieces of 1 / parts steps, and a search over the ends of
the pieces counts them. It shares no code with the package.
"""

from fractions import Fraction
from itertools import product


class Net:
    """All points of a tree that are 1 / parts steps apart."""

    def __init__(self, crossings, roads, parts):
        self.roads = roads
        self.parts = parts
        self.beside = {}
        self.names = {}
        for road, (a, b, length) in enumerate(roads):
            for at in range(length * parts):
                one, other = self.spot(road, at), self.spot(road, at + 1)
                self.beside.setdefault(one, []).append(other)
                self.beside.setdefault(other, []).append(one)
            for at in range(length * parts + 1):
                self.names.setdefault(self.spot(road, at), (road, Fraction(at, parts)))

    def spot(self, road, at):
        a, b, length = self.roads[road]
        if at == 0:
            return ("crossing", a)
        if at == length * self.parts:
            return ("crossing", b)
        return (road, at)

    def of(self, road, where):
        at = where * self.parts
        assert at.denominator == 1
        return self.spot(road, at.numerator)

    def counts_to(self, goal):
        counts = {goal: 0}
        waiting = [goal]
        for spot in waiting:
            for near in self.beside[spot]:
                if near not in counts:
                    counts[near] = counts[spot] + 1
                    waiting.append(near)
        return counts

    def walk(self, spot, counts, times):
        for _ in range(times):
            nearer = [near for near in self.beside[spot] if counts[near] < counts[spot]]
            if not nearer:
                return spot
            spot, = nearer
        return spot

    def moved(self, goal, steps):
        """Where so many small steps towards the goal lead from each point."""
        found = {}
        way = []
        waiting = [(goal, 0)]
        while waiting:
            spot, far = waiting.pop()
            del way[far:]
            found[spot] = (way + [spot])[max(0, far - steps)]
            waiting.extend((near, far + 1) for near in self.beside[spot] if near not in way[-1:])
            way.append(spot)
        return found

    def images(self, marches):
        """Where marches (road, number, steps), one after the other, move each point."""
        found = {spot: spot for spot in self.beside}
        for road, number, steps in marches:
            moved = self.moved(self.of(road, Fraction(number)), steps * self.parts)
            found = {spot: moved[image] for spot, image in found.items()}
        return found

    def keys_in_order(self):
        return sorted((name, spot) for spot, name in self.names.items())


def longest_stretches(net, images):
    """The rows (road, least, greatest, first, last) of a net of whole places, step by step along each road."""
    found = []
    for road, (a, b, length) in enumerate(net.roads):
        way = [images[net.spot(road, at)] for at in range(length + 1)]
        cuts = [0]
        for at in range(1, length):
            before, here, behind = way[at - 1:at + 2]
            was_still, is_still = before == here, here == behind
            if was_still != is_still or (not is_still and before == behind):
                cuts.append(at)
        cuts.append(length)
        for least, greatest in zip(cuts, cuts[1:]):
            found.append((road, least, greatest, net.names[way[least]], net.names[way[greatest]]))
    return found


def describes(net, images, stretches):
    """Whether rows (road, least, greatest, first, last) describe the images, place by place."""
    steps = [(road, at) for road, (a, b, length) in enumerate(net.roads) for at in range(length)]
    if steps != [(road, at) for road, least, greatest, _, _ in stretches for at in range(least, greatest)]:
        return False
    if any(least >= greatest for _, least, greatest, _, _ in stretches):
        return False
    spots = {name: spot for spot, name in net.names.items()}
    for road, least, greatest, first, last in stretches:
        if first not in spots or last not in spots:
            return False
        counts = net.counts_to(spots[last])
        way = [images[net.spot(road, at)] for at in range(least, greatest + 1)]
        if way[0] != spots[first] or way[-1] != spots[last]:
            return False
        falling = [0 if first == last else greatest - at for at in range(least, greatest + 1)]
        if [counts[spot] for spot in way] != falling:
            return False
    return True


def first_apart(net, ours, theirs):
    """The keys (place, ours, theirs) of the first point that two rows move apart, or None."""
    for name, spot in net.keys_in_order():
        if ours[spot] != theirs[spot]:
            return (name, net.names[ours[spot]], net.names[theirs[spot]])
    return None


class Choices:
    """Numbers that look random and are the same on every run."""

    def __init__(self, seed):
        self.state = seed

    def below(self, many):
        self.state = (self.state * 6364136223846793005 + 1442695040888963407) % 2 ** 64
        return (self.state >> 33) % many

    def roads(self, crossings, longest):
        """A tree, as rows (a, b, length), with crossings and roads in no order."""
        names = self.shuffled(range(crossings))
        roads = []
        for at in range(1, crossings):
            pair = self.shuffled([names[at], names[self.below(at)]])
            roads.append((*pair, 1 + self.below(longest)))
        return self.shuffled(roads)

    def marches(self, roads, many, longest):
        """Marches (road, number, steps) on a tree."""
        found = []
        for _ in range(many):
            road = self.below(len(roads))
            found.append((road, self.below(roads[road][2] + 1), 1 + self.below(longest)))
        return found

    def shuffled(self, values):
        values = list(values)
        return [values.pop(self.below(len(values))) for _ in range(len(values))]


def labelled_trees(crossings):
    """All trees over the numbered crossings, as lists of pairs."""
    for code in product(range(crossings), repeat=crossings - 2):
        degree = [1 + code.count(crossing) for crossing in range(crossings)]
        pairs = []
        for crossing in code:
            leaf = degree.index(1)
            pairs.append((leaf, crossing))
            degree[leaf] -= 1
            degree[crossing] -= 1
        pairs.append(tuple(crossing for crossing in range(crossings) if degree[crossing] == 1))
        yield pairs


def varied_roads(pairs, turn):
    """The pairs as (a, b, length), in an order and with directions that depend on `turn`."""
    pairs = pairs[turn % len(pairs):] + pairs[:turn % len(pairs)]
    return [
        (pair[::-1] if (turn >> at) & 1 else pair) + ((turn + at) % 3 + 1,)
        for at, pair in enumerate(pairs)
    ]
