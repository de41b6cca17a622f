"""What several test files ask and make in the same way."""

from fractions import Fraction

from onetrain.doings import Stretch
from onetrain.marches import March, Row
from onetrain.places import Place
from onetrain.trees import Road, Tree


class Asking:
    """Beside unittest.TestCase: errors with their fields, and places as plain values."""

    def refuses(self, error, fields, action, *args, **kwargs):
        """The call raises exactly this error, with exactly these fields."""
        with self.assertRaises(error) as caught:
            action(*args, **kwargs)
        self.assertIs(type(caught.exception), error)
        self.assertEqual(vars(caught.exception), fields)

    def is_place(self, place, road, number, parts=1):
        self.assertEqual((place.road, place.number, place.parts), (road, number, parts))


def told(place):
    """A place as (road, fraction)."""
    return (place.road, Fraction(place.number, place.parts))


def place_of(name):
    """The place of a pair (road, fraction)."""
    road, where = name
    return Place(road, where.numerator, where.denominator)


def tree_of(roads):
    """A tree of roads (a, b, length)."""
    return Tree(len(roads) + 1, [Road(*road) for road in roads])


def march_of(road, number, steps):
    return March(Place(road, number, 1), steps)


def row_of(roads, marches):
    """A row of marches (road, number, steps) on a tree of roads (a, b, length)."""
    return Row(tree_of(roads), [march_of(*march) for march in marches])


def plain(stretches):
    """Stretches as rows (road, least, greatest, first, last), with pairs (road, fraction) for places."""
    return [
        (stretch.road, stretch.least, stretch.greatest, told(stretch.first), told(stretch.last))
        for stretch in stretches
    ]


def stretches_of(rows):
    """The stretches of such rows."""
    return [
        Stretch(road, least, greatest, place_of(first), place_of(last))
        for road, least, greatest, first, last in rows
    ]


class Everything:
    """Claims to equal everything, as a value of another class may."""

    def __eq__(self, other):
        return True
