"""What several test files ask in the same way."""

from fractions import Fraction


class Asking:
    """Beside unittest.TestCase: errors with their fields, and places as plain values."""

    def refuses(self, error, fields, action, *args, **kwargs):
        """The call raises exactly this error, with exactly these fields."""
        with self.assertRaises(error) as caught:
            action(*args, **kwargs)
        self.assertIs(type(caught.exception), error)
        self.assertEqual(vars(caught.exception), fields)

    def is_place(self, place, road, number, parts=1):
        self.assertEqual((place.road, place.number, place.parts), (road, number, parts))


def told(place):
    """A place as (road, fraction)."""
    return (place.road, Fraction(place.number, place.parts))


class Everything:
    """Claims to equal everything, as a value of another class may."""

    def __eq__(self, other):
        return True
