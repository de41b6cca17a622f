"""[4]: places, their keys, and the order of keys."""

import unittest
from fractions import Fraction
from math import gcd

from asking import Asking, told
from oracle import Net, labelled_trees, varied_roads

from onetrain.errors import BadCount, NoCrossing, NoRoad, OffRoad
from onetrain.places import Place, corner, distance, is_before, key, step
from onetrain.trees import Road, Tree

# Crossing 0 ends roads 0, 1 and 2: at `a`, at `a` and at `b`.
FORK = Tree(4, [Road(0, 1, 3), Road(0, 2, 2), Road(3, 0, 4)])


class LowestTerms(Asking, unittest.TestCase):
    def test_whole_places(self):
        self.is_place(Place(2, 5, 1), 2, 5, 1)
        self.is_place(Place(2, 10, 2), 2, 5, 1)

    def test_by_keyword(self):
        self.is_place(Place(parts=4, road=7, number=6), 7, 3, 2)

    def test_fractions(self):
        self.is_place(Place(0, 2, 4), 0, 1, 2)
        self.is_place(Place(0, 3, 4), 0, 3, 4)
        self.is_place(Place(0, 35, 14), 0, 5, 2)

    def test_number_0(self):
        for parts in (1, 2, 7, 10 ** 30):
            self.is_place(Place(3, 0, parts), 3, 0, 1)

    def test_negative_numbers(self):
        self.is_place(Place(0, -4, 6), 0, -2, 3)
        self.is_place(Place(0, -3, 1), 0, -3, 1)
        self.is_place(Place(-2, -6, 3), -2, -2, 1)
        self.is_place(Place(0, -10 ** 30, 10 ** 30), 0, -1, 1)

    def test_large_numbers(self):
        large = 10 ** 30
        self.is_place(Place(large, large, 3), large, large, 3)
        self.is_place(Place(0, large, large), 0, 1, 1)
        self.is_place(Place(0, 6 * large, 4), 0, 3 * large // 2, 1)
        self.is_place(Place(0, large, large - 1), 0, large, large - 1)
        self.is_place(Place(0, -large, 7 * large), 0, -1, 7)

    def test_every_small_fraction(self):
        for number in range(-12, 13):
            for parts in range(1, 13):
                place = Place(1, number, parts)
                self.assertEqual(Fraction(place.number, place.parts), Fraction(number, parts))
                self.assertEqual(gcd(place.number, place.parts), 1)
                self.assertGreaterEqual(place.parts, 1)

    def test_the_fields_are_integers(self):
        place = Place(0, 2, 4)
        self.assertEqual([type(place.road), type(place.number), type(place.parts)], [int, int, int])


class Parts(Asking, unittest.TestCase):
    def test_parts_below_1(self):
        for parts in (0, -1, -2, -10 ** 30):
            for number in (0, 1, -1):
                self.refuses(BadCount, {"what": "parts", "count": parts}, Place, 0, number, parts)

    def test_nothing_else_is_checked(self):
        self.is_place(Place(-1, -1, 1), -1, -1, 1)
        self.is_place(Place(99, 10 ** 30, 1), 99, 10 ** 30, 1)


class Equality(unittest.TestCase):
    def test_equal_if_the_fields_are_equal(self):
        self.assertIs(Place(0, 1, 2) == Place(0, 1, 2), True)
        self.assertIs(Place(0, 1, 2) == Place(0, 5, 10), True)
        self.assertIs(Place(0, 1, 2) != Place(0, 5, 10), False)
        self.assertIs(Place(0, 0, 2) == Place(0, 0, 9), True)

    def test_not_equal_otherwise(self):
        for other in [Place(1, 1, 2), Place(0, 3, 2), Place(0, 1, 3), Place(0, -1, 2), Place(0, 2, 1)]:
            self.assertIs(Place(0, 1, 2) == other, False)
            self.assertIs(Place(0, 1, 2) != other, True)

    def test_places_of_one_crossing_are_not_equal(self):
        self.assertNotEqual(Place(0, 0, 1), Place(1, 0, 1))

    def test_never_equal_to_other_values(self):
        for other in [(0, 1, 2), [0, 1, 2], Fraction(1, 2), 0, None, "0:1/2"]:
            self.assertIs(Place(0, 1, 2) == other, False)


class Keys(Asking, unittest.TestCase):
    def test_a_crossing_by_each_of_its_roads(self):
        for place in (Place(0, 0, 1), Place(1, 0, 1), Place(2, 4, 1), Place(2, 8, 2), Place(1, 0, 5)):
            self.is_place(key(FORK, place), 0, 0)

    def test_a_crossing_that_ends_one_road(self):
        self.is_place(key(FORK, Place(0, 3, 1)), 0, 3)
        self.is_place(key(FORK, Place(1, 2, 1)), 1, 2)
        self.is_place(key(FORK, Place(2, 0, 1)), 2, 0)

    def test_other_positions_are_their_own_keys(self):
        for place in (Place(0, 1, 1), Place(1, 1, 1), Place(2, 3, 1), Place(2, 1, 2), Place(2, 23, 6),
                      Place(1, 1, 10 ** 30), Place(1, 2 * 10 ** 30 - 1, 10 ** 30)):
            self.assertEqual(key(FORK, place), place)

    def test_by_keyword(self):
        self.is_place(key(place=Place(2, 4, 1), tree=FORK), 0, 0)
        self.is_place(corner(crossing=3, tree=FORK), 2, 0)

    def test_the_place_does_not_change(self):
        place = Place(2, 4, 1)
        key(FORK, place)
        self.is_place(place, 2, 4)

    def test_the_lowest_road_may_be_met_at_either_end(self):
        tree = Tree(4, [Road(1, 0, 5), Road(2, 1, 6), Road(1, 3, 7)])
        for place in (Place(0, 0, 1), Place(1, 6, 1), Place(2, 0, 1)):
            self.is_place(key(tree, place), 0, 0)
        tree = Tree(4, [Road(0, 1, 5), Road(1, 2, 6), Road(3, 1, 7)])
        for place in (Place(0, 5, 1), Place(1, 0, 1), Place(2, 7, 1)):
            self.is_place(key(tree, place), 0, 5)

    def test_corners(self):
        for crossing, (road, number) in enumerate([(0, 0), (0, 3), (1, 2), (2, 0)]):
            self.is_place(corner(FORK, crossing), road, number)

    def test_corners_of_crossings_that_do_not_exist(self):
        for crossing in (4, 5, -1, -4, 10 ** 30, -10 ** 30):
            self.refuses(NoCrossing, {"crossing": crossing}, corner, FORK, crossing)

    def test_corners_of_the_largest_trees(self):
        line = Tree(24, [Road(at, at + 1, at + 1) for at in range(23)])
        self.is_place(corner(line, 0), 0, 0)
        for crossing in range(1, 24):
            self.is_place(corner(line, crossing), crossing - 1, crossing)
        self.refuses(NoCrossing, {"crossing": 24}, corner, line, 24)
        star = Tree(24, [Road(23, at, 10 ** 9) for at in range(23)])
        self.is_place(corner(star, 23), 0, 0)
        for crossing in range(23):
            self.is_place(corner(star, crossing), crossing, 10 ** 9)

    def test_against_counting(self):
        for turn, pairs in enumerate(labelled_trees(5)):
            roads = varied_roads(pairs, turn)
            tree = Tree(5, [Road(*road) for road in roads])
            net = Net(5, roads, 2)
            for road, (a, b, length) in enumerate(roads):
                for number in range(2 * length + 1):
                    expected = net.names[net.spot(road, number)]
                    self.assertEqual(told(key(tree, Place(road, number, 2))), expected)
            for crossing in range(5):
                self.assertEqual(told(corner(tree, crossing)), net.names["crossing", crossing])


def calls_with(place):
    """Each call that takes a place together with a tree."""
    fine = Place(0, 1, 1)
    return [
        (key, (FORK, place)),
        (distance, (FORK, place, fine)),
        (distance, (FORK, fine, place)),
        (step, (FORK, place, fine, 1)),
        (step, (FORK, fine, place, 1)),
    ]


class Invalid(Asking, unittest.TestCase):
    def test_roads_that_the_tree_does_not_have(self):
        for road in (-1, -3, 3, 4, 10 ** 30, -10 ** 30):
            for number in (0, 1, -1, 10 ** 30):
                for action, args in calls_with(Place(road, number, 1)):
                    self.refuses(NoRoad, {"road": road}, action, *args)

    def test_negative_distances(self):
        for road in (0, 1, 2):
            for number, parts in [(-1, 1), (-1, 2), (-1, 10 ** 30), (-10 ** 30, 1)]:
                for action, args in calls_with(Place(road, number, parts)):
                    self.refuses(OffRoad, {"road": road}, action, *args)

    def test_distances_beyond_the_end(self):
        for road, length in enumerate((3, 2, 4)):
            large = 10 ** 30
            for number, parts in [(length + 1, 1), (2 * length + 1, 2), (length * large + 1, large), (large, 1)]:
                for action, args in calls_with(Place(road, number, parts)):
                    self.refuses(OffRoad, {"road": road}, action, *args)

    def test_the_ends_themselves_are_on_the_road(self):
        for road, length in enumerate((3, 2, 4)):
            for number in (0, length):
                for action, args in calls_with(Place(road, number, 1)):
                    action(*args)


class Order(unittest.TestCase):
    def test_by_road_then_by_distance(self):
        ordered = [
            Place(0, 0, 1), Place(0, 1, 10 ** 30), Place(0, 1, 3), Place(0, 1, 2), Place(0, 2, 3), Place(0, 1, 1),
            Place(0, 10, 3), Place(0, 7, 2), Place(0, 10, 1), Place(1, 1, 2), Place(1, 2, 1), Place(2, 0, 1),
            Place(10, 0, 1),
        ]
        for at, one in enumerate(ordered):
            for index, other in enumerate(ordered):
                self.assertIs(is_before(one, other), at < index)

    def test_by_keyword(self):
        self.assertIs(is_before(other=Place(0, 1, 1), one=Place(0, 0, 1)), True)


if __name__ == "__main__":
    unittest.main()
