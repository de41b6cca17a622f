"""A slow second way to find all that becomes of a repeated row: by walking each round.

It stands on the nets of oracle.py and shares no code with the package.
"""

from fractions import Fraction
from math import gcd

from oracle import Choices, Net


def lowest(least, greatest, parts):
    """The three numbers in lowest terms together."""
    shared = gcd(least, greatest, parts)
    return (least // shared, greatest // shared, parts // shared)


def pieces_to(net, images, goal):
    """The rows (road, least, greatest, parts) of all points of a net that are moved to a goal, point by point."""
    found = []
    for road, (a, b, length) in enumerate(net.roads):
        end = length * net.parts
        hits = [at for at in range(end + 1) if images[net.spot(road, at)] == goal]
        for first in [at for at in hits if at - 1 not in hits]:
            last = first
            while last + 1 in hits:
                last += 1
            found.append((road, *lowest(first, last, net.parts)))
    return found


def train_spots(images):
    """The points that two rounds leave in place."""
    return [spot for spot in images if images[images[spot]] == spot]


def train_names(net, images):
    """The keys of the two ends of the train, in order."""
    spots = train_spots(images)
    one = max(spots, key=net.counts_to(spots[0]).get)
    other = max(spots, key=net.counts_to(one).get)
    return sorted([net.names[one], net.names[other]])


def stands_along(net, marches, names):
    """The pairs of keys where people from some keys are before each march, and after the last."""
    spots = [net.of(*name) for name in names]
    stands = [tuple(names)]
    for road, number, steps in marches:
        moved = net.moved(net.of(road, Fraction(number)), steps * net.parts)
        spots = [moved[spot] for spot in spots]
        stands.append(tuple(net.names[spot] for spot in spots))
    return stands


def train_of(net, marches):
    """The train as (one, other, is_turned, stands), with keys as pairs (road, fraction)."""
    images = net.images(marches)
    one, other = train_names(net, images)
    stands = stands_along(net, marches, [one, other])
    return (one, other, stands[-1] != stands[0], stands)


def fate_of(images, spot):
    """The tail and the ring of a point."""
    spots = train_spots(images)
    tail = 0
    while spot not in spots:
        spot = images[spot]
        tail += 1
    return (tail, 1 if images[spot] == spot else 2)


def meeting_of(images, one, other):
    """The first round after which two points are one, or None."""
    seen = []
    while (one, other) not in seen:
        if one == other:
            return len(seen)
        seen.append((one, other))
        one, other = images[one], images[other]
    return None


def carrying(choices, roads, many, turned):
    """Marches, up to so many, that carry a train of some steps around and back; None where none were found.

    If `turned`, the train comes back with its ends exchanged.
    """
    net = Net(len(roads) + 1, roads, 1)
    tips = [
        (road, number) for road, (a, b, length) in enumerate(roads) for crossing, number in ((a, 0), (b, length))
        if sum(crossing in other[:2] for other in roads) == 1
    ]
    counts = {tip: net.counts_to(net.of(tip[0], Fraction(tip[1]))) for tip in tips}
    keys = net.keys_in_order()
    one, other = [keys[choices.below(len(keys))][1] for _ in range(2)]
    size = net.counts_to(one)[other]
    goals = [(other, one)] if turned else [(other, one), (one, other)]
    marches = []
    while size and len(marches) < many:
        pulls = [
            (tip, head) for tip in tips for head, tail in ((one, other), (other, one))
            if counts[tip][tail] - counts[tip][head] == size and counts[tip][head] > 0
        ]
        if not pulls:
            return None
        tip, head = pulls[choices.below(len(pulls))]
        steps = 1 + choices.below(counts[tip][head])
        one, other = [net.walk(spot, counts[tip], steps) for spot in (one, other)]
        marches.append((*tip, steps))
        if (one, other) in goals:
            return marches
    return None


def carrying_rows(seed, wanted, *, turned=False, crossings=5, longest=5, many=6):
    """So many pairs of roads and marches that carry a train of some steps."""
    choices = Choices(seed)
    found = []
    while len(found) < wanted:
        roads = choices.roads(2 + choices.below(crossings), longest)
        marches = carrying(choices, roads, many, turned)
        if marches:
            found.append((roads, marches))
    return found


def any_rows(seed, wanted, crossings=8, longest=7):
    """So many pairs of roads and marches, with at least one march; most of them end in one position."""
    choices = Choices(seed)
    found = []
    for _ in range(wanted):
        roads = choices.roads(2 + choices.below(crossings), 1 + choices.below(longest))
        found.append((roads, choices.marches(roads, 1 + choices.below(7), 1 + choices.below(2 * longest))))
    return found


def settling_of(images):
    """The number of rounds after which all points are in the train."""
    here = set(images)
    last = set(train_spots(images))
    rounds = 0
    while not here <= last:
        here = {images[spot] for spot in here}
        rounds += 1
    return rounds


def fewest_of(net, marches):
    """How many marches it takes at least to move all points to one, by trying all sequences."""
    moves = [net.images([march]) for march in marches]
    reached = {frozenset(net.beside)}
    many = 0
    while all(len(spots) > 1 for spots in reached):
        reached = {frozenset(move[spot] for spot in spots) for spots in reached for move in moves}
        many += 1
    return many
