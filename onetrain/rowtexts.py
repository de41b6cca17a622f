"""Trees, places and rows as texts, and read back."""

from onetrain.errors import BadRow, BadText
from onetrain.marches import March, Row
from onetrain.places import Place
from onetrain.trees import Road, Tree

DIGITS = "0123456789"
MOST_DIGITS = 31
LEAST_PARTS = 2
NO_MARCHES = "none"


def tree_rows(tree):
    """Return the rows of text that tell a tree, one for each road."""
    return [f"road {road.a} {road.b} {road.length}" for road in tree.roads]


def read_tree(rows):
    """Return the tree that rows of text tell."""
    if not rows:
        raise BadRow(1)
    roads = []
    for at, row in enumerate(rows):
        road = read_road(row)
        if road is None:
            raise BadRow(at + 1)
        roads.append(road)
    return Tree(len(roads) + 1, roads)


def read_road(row):
    """Return the road that a row of text tells, or None."""
    words = row.split(" ")
    numbers = [read_number(word) for word in words[1:]]
    if words[0] != "road" or len(numbers) != 3 or None in numbers:
        return None
    return Road(numbers[0], numbers[1], numbers[2])


def place_text(place):
    """Return the text of a place."""
    if place.parts == 1:
        return f"{place.road}:{place.number}"
    return f"{place.road}:{place.number}/{place.parts}"


def read_place(text):
    """Return the place that a text tells, or None."""
    road, _, rest = text.partition(":")
    number, slash, parts = rest.partition("/")
    numbers = [read_number(road), read_number(number), read_number(parts) if slash else 1]
    if None in numbers or (slash and numbers[2] < LEAST_PARTS):
        return None
    return Place(numbers[0], numbers[1], numbers[2])


def read_number(text):
    """Return the number that a text tells, or None."""
    if not 1 <= len(text) <= MOST_DIGITS or any([mark not in DIGITS for mark in text]):
        return None
    if text[0] == "0" and text != "0":
        return None
    return int(text)


def row_text(row):
    """Return the text of a row, with the goals as they are stored."""
    if not row.marches:
        return NO_MARCHES
    return ", ".join([f"{place_text(march.goal)} {march.steps}" for march in row.marches])


def read_row(tree, text):
    """Return the row on a tree that a text tells."""
    return Row(tree, read_marches(text))


def read_marches(text):
    """Return the marches that the text of a row tells, whatever tree they are for."""
    if text == NO_MARCHES:
        return []
    marches = []
    for at, part in enumerate(text.split(", ")):
        march = read_march(part)
        if march is None:
            raise BadText(at)
        marches.append(march)
    return marches


def read_march(text):
    """Return the march that a text tells, or None."""
    goal, _, steps = text.partition(" ")
    place = read_place(goal)
    number = read_number(steps)
    return None if place is None or number is None else March(place, number)
