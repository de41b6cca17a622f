"""How soon everyone is in the train, and how soon everyone can be brought together.

Whole places alone are looked at: where they are moved determines where all
positions between them are.
"""

from onetrain.errors import BadCount
from onetrain.marches import Row, after, check_round
from onetrain.places import Place, key, step

MOST_SETTLING = 500
MOST_GATHERING = 30
MOST_CHOICES = 6


def settled(row):
    """Return the smallest number of rounds after which every person is in the train."""
    check_round(row)
    check_size(row.tree, MOST_SETTLING)
    places = whole_places(row.tree)
    moved = indexes_of(places, [after(row, place) for place in places])
    here = list(range(len(places)))
    rounds = 0
    while [moved[moved[at]] for at in here] != here:
        here = sorted({moved[at] for at in here})
        rounds += 1
    return rounds


def fewest(tree, marches):
    """Return a shortest sequence of marches, as indexes, that moves everyone to one position."""
    choices = Row(tree, marches).marches
    if not 1 <= len(choices) <= MOST_CHOICES:
        raise BadCount("marches", len(choices))
    check_size(tree, MOST_GATHERING)
    places = whole_places(tree)
    moves = [
        indexes_of(places, [step(tree, place, march.goal, march.steps) for place in places])
        for march in choices
    ]
    return shortest(tuple(range(len(places))), moves)


def shortest(start, moves):
    """Return a shortest sequence of moves, as indexes, that leaves one of the start's members."""
    ways = {start: []}
    latest = [start]
    while True:
        found = []
        for here in latest:
            for index, move in enumerate(moves):
                there = tuple(sorted({move[at] for at in here}))
                if len(there) == 1:
                    return ways[here] + [index]
                if there not in ways:
                    ways[there] = ways[here] + [index]
                    found.append(there)
        latest = found


def check_size(tree, most):
    """Raise the error of a tree whose roads are longer, all together, than so many steps."""
    size = sum([road.length for road in tree.roads])
    if size > most:
        raise BadCount("places", size)


def whole_places(tree):
    """Return the keys of all whole places."""
    every = [Place(number, at, 1) for number, road in enumerate(tree.roads) for at in range(road.length + 1)]
    return [place for place in every if key(tree, place) == place]


def indexes_of(places, images):
    """Return for each image its index among the places."""
    at = {(place.road, place.number): index for index, place in enumerate(places)}
    return [at[image.road, image.number] for image in images]
