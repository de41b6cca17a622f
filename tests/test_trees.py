"""[3]: roads and trees."""

import unittest

from asking import Asking, Everything
from oracle import labelled_trees, varied_roads

from onetrain.errors import BadCount, NoCrossing, RingRoad
from onetrain.places import Place
from onetrain.trees import Road, Tree


def line(crossings, length=1):
    return [Road(at, at + 1, length) for at in range(crossings - 1)]


def star(crossings, length=1):
    return [Road(0, at, length) for at in range(1, crossings)]


class Roads(unittest.TestCase):
    def test_fields(self):
        road = Road(3, 1, 7)
        self.assertEqual((road.a, road.b, road.length), (3, 1, 7))

    def test_fields_by_keyword(self):
        road = Road(length=7, b=1, a=3)
        self.assertEqual((road.a, road.b, road.length), (3, 1, 7))

    def test_creating_a_road_raises_no_error(self):
        for a, b, length in [(0, 0, 1), (-1, -2, 0), (99, 5, -1), (0, 1, 10 ** 30), (10 ** 30, -10 ** 30, -10 ** 30)]:
            road = Road(a, b, length)
            self.assertEqual((road.a, road.b, road.length), (a, b, length))

    def test_equal_if_all_fields_are_equal(self):
        self.assertTrue(Road(0, 1, 2) == Road(0, 1, 2))
        self.assertFalse(Road(0, 1, 2) != Road(0, 1, 2))
        for other in [Road(3, 1, 2), Road(0, 3, 2), Road(0, 1, 3), Road(1, 0, 2)]:
            self.assertFalse(Road(0, 1, 2) == other)
            self.assertTrue(Road(0, 1, 2) != other)

    def test_equality_is_true_or_false(self):
        self.assertIs(Road(0, 1, 2) == Road(0, 1, 2), True)
        self.assertIs(Road(0, 1, 2) == Road(0, 1, 3), False)
        self.assertIs(Road(0, 1, 2) == 5, False)


class Fields(unittest.TestCase):
    def test_fields(self):
        roads = [Road(0, 1, 3), Road(0, 2, 2)]
        tree = Tree(3, roads)
        self.assertEqual(tree.crossings, 3)
        self.assertIs(type(tree.roads), tuple)
        self.assertEqual(tree.roads, tuple(roads))

    def test_by_keyword(self):
        tree = Tree(roads=[Road(0, 1, 3)], crossings=2)
        self.assertEqual((tree.crossings, tree.roads), (2, (Road(0, 1, 3),)))

    def test_roads_keep_their_order_and_directions(self):
        roads = [Road(2, 1, 4), Road(3, 0, 1), Road(0, 2, 9)]
        self.assertEqual(list(Tree(4, roads).roads), roads)

    def test_the_list_of_roads_is_copied(self):
        roads = [Road(0, 1, 3), Road(0, 2, 2)]
        tree = Tree(3, roads)
        roads[0] = Road(1, 2, 9)
        roads.append(Road(0, 1, 1))
        self.assertEqual(tree.roads, (Road(0, 1, 3), Road(0, 2, 2)))
        roads.clear()
        self.assertEqual(tree, Tree(3, [Road(0, 1, 3), Road(0, 2, 2)]))

    def test_arguments_do_not_change(self):
        roads = [Road(1, 0, 3), Road(0, 2, 2)]
        Tree(3, roads)
        self.assertEqual(roads, [Road(1, 0, 3), Road(0, 2, 2)])
        ring = [Road(1, 0, 3), Road(0, 1, 2)]
        with self.assertRaises(RingRoad):
            Tree(3, ring)
        self.assertEqual(ring, [Road(1, 0, 3), Road(0, 1, 2)])

    def test_a_list_and_a_tuple_are_equal_arguments(self):
        roads = [Road(0, 1, 3), Road(0, 2, 2)]
        one, other = Tree(3, roads), Tree(3, tuple(roads))
        self.assertEqual(one, other)
        self.assertEqual(one.roads, other.roads)
        self.assertIs(type(other.roads), tuple)


class Equality(unittest.TestCase):
    def test_equal_if_both_fields_are_equal(self):
        self.assertTrue(Tree(3, line(3)) == Tree(3, line(3)))
        self.assertFalse(Tree(3, line(3)) != Tree(3, line(3)))
        for other in [Tree(3, line(3, 2)), Tree(3, star(3)), Tree(4, line(4)), Tree(2, line(2))]:
            self.assertFalse(Tree(3, line(3)) == other)
            self.assertTrue(Tree(3, line(3)) != other)

    def test_the_order_and_the_directions_of_the_roads_count(self):
        tree = Tree(3, [Road(0, 1, 1), Road(1, 2, 1)])
        self.assertNotEqual(tree, Tree(3, [Road(1, 2, 1), Road(0, 1, 1)]))
        self.assertNotEqual(tree, Tree(3, [Road(1, 0, 1), Road(1, 2, 1)]))

    def test_never_equal_to_an_object_of_another_class(self):
        roads = line(3)
        road, tree, place = Road(0, 1, 1), Tree(3, roads), Place(0, 1, 1)
        others = [None, 0, 1, "", "road 0 1 1", (), (0, 1, 1), [0, 1, 1], (3, tuple(roads)), tuple(roads), {},
                  b"", object(), Everything(), road, tree, place]
        for one in (road, tree, place):
            for other in others:
                if other is not one:
                    self.assertIs(one == other, False)
                    self.assertIs(one != other, True)


class Counts(Asking, unittest.TestCase):
    def test_from_2_to_24_crossings(self):
        for crossings in range(2, 25):
            for shape in (line, star):
                self.assertEqual(Tree(crossings, shape(crossings)).crossings, crossings)

    def test_other_numbers_of_crossings(self):
        for crossings in (1, 0, -1, 25, 26, 10 ** 30, -10 ** 30):
            roads = line(crossings) if crossings in (1, 25, 26) else []
            self.refuses(BadCount, {"what": "crossings", "count": crossings}, Tree, crossings, roads)

    def test_one_road_too_few_and_one_too_many(self):
        for crossings in (2, 3, 24):
            few = line(crossings)[1:]
            many = line(crossings) + [Road(0, 1, 1)]
            self.refuses(BadCount, {"what": "roads", "count": crossings - 2}, Tree, crossings, few)
            self.refuses(BadCount, {"what": "roads", "count": crossings}, Tree, crossings, many)
            self.refuses(BadCount, {"what": "roads", "count": crossings}, Tree, crossings, tuple(many))

    def test_crossings_are_checked_before_roads(self):
        for crossings in (1, 0, -1, 25):
            self.refuses(BadCount, {"what": "crossings", "count": crossings}, Tree, crossings, line(5))
            self.refuses(BadCount, {"what": "crossings", "count": crossings}, Tree, crossings, [Road(9, 9, 0)])

    def test_the_number_of_roads_is_checked_before_each_road(self):
        self.refuses(BadCount, {"what": "roads", "count": 2}, Tree, 2, [Road(9, 9, 0), Road(0, 1, 1)])
        self.refuses(BadCount, {"what": "roads", "count": 1}, Tree, 3, [Road(9, 9, 0)])


class EachRoad(Asking, unittest.TestCase):
    def test_ends_that_are_no_crossing(self):
        for bad in (2, 3, -1, -2, 10 ** 30, -10 ** 30):
            self.refuses(NoCrossing, {"crossing": bad}, Tree, 2, [Road(bad, 1, 1)])
            self.refuses(NoCrossing, {"crossing": bad}, Tree, 2, [Road(0, bad, 1)])
            self.refuses(NoCrossing, {"crossing": bad}, Tree, 2, [Road(bad, bad, 1)])

    def test_end_a_is_checked_before_end_b(self):
        self.refuses(NoCrossing, {"crossing": 7}, Tree, 2, [Road(7, 5, 1)])
        self.refuses(NoCrossing, {"crossing": -5}, Tree, 2, [Road(-5, 7, 1)])
        self.refuses(NoCrossing, {"crossing": 7}, Tree, 2, [Road(7, -5, 1)])

    def test_lengths(self):
        for length in (1, 2, 10 ** 9 - 1, 10 ** 9):
            self.assertEqual(Tree(2, [Road(1, 0, length)]).roads[0].length, length)
        for length in (0, -1, 10 ** 9 + 1, 10 ** 30, -10 ** 30):
            self.refuses(BadCount, {"what": "length", "count": length}, Tree, 2, [Road(1, 0, length)])
            self.refuses(BadCount, {"what": "length", "count": length}, Tree, 3, [Road(1, 0, 1), Road(1, 2, length)])

    def test_ends_are_checked_before_the_length(self):
        for length in (0, -1, 10 ** 9 + 1):
            self.refuses(NoCrossing, {"crossing": 2}, Tree, 2, [Road(2, 0, length)])
            self.refuses(NoCrossing, {"crossing": 2}, Tree, 2, [Road(0, 2, length)])

    def test_the_length_is_checked_before_rings(self):
        self.refuses(BadCount, {"what": "length", "count": 0}, Tree, 2, [Road(1, 1, 0)])
        self.refuses(BadCount, {"what": "length", "count": 0}, Tree, 3, [Road(0, 1, 1), Road(1, 0, 0)])

    def test_equal_ends(self):
        self.refuses(RingRoad, {"road": 0}, Tree, 2, [Road(0, 0, 1)])
        self.refuses(RingRoad, {"road": 1}, Tree, 3, [Road(0, 1, 1), Road(2, 2, 1)])

    def test_roads_between_crossings_that_are_connected(self):
        self.refuses(RingRoad, {"road": 1}, Tree, 3, [Road(0, 1, 1), Road(0, 1, 1)])
        self.refuses(RingRoad, {"road": 1}, Tree, 3, [Road(0, 1, 1), Road(1, 0, 2)])
        self.refuses(RingRoad, {"road": 2}, Tree, 4, [Road(0, 1, 1), Road(2, 1, 1), Road(0, 2, 1)])
        self.refuses(RingRoad, {"road": 3}, Tree, 5, [Road(0, 1, 1), Road(3, 2, 1), Road(2, 1, 1), Road(0, 3, 1)])
        self.refuses(RingRoad, {"road": 2}, Tree, 5, [Road(0, 1, 1), Road(3, 2, 1), Road(2, 3, 1), Road(1, 2, 1)])

    def test_a_ring_over_all_other_roads(self):
        roads = line(23) + [Road(22, 0, 1)]
        self.refuses(RingRoad, {"road": 22}, Tree, 24, roads)

    def test_the_first_invalid_road_decides(self):
        faults = [
            (Road(4, 0, 1), NoCrossing, {"crossing": 4}),
            (Road(0, -1, 1), NoCrossing, {"crossing": -1}),
            (Road(0, 2, 0), BadCount, {"what": "length", "count": 0}),
            (Road(1, 0, 1), RingRoad, {"road": 1}),
        ]
        for first, error, fields in faults:
            for second, _, _ in faults:
                self.refuses(error, fields, Tree, 4, [Road(0, 1, 1), first, second])

    def test_parts_that_are_joined_late(self):
        roads = [Road(0, 1, 1), Road(2, 3, 1), Road(4, 5, 1), Road(5, 2, 1), Road(1, 4, 1)]
        self.assertEqual(Tree(6, roads).roads, tuple(roads))

    def test_every_tree_of_five_crossings_is_accepted_and_no_ring_is(self):
        for turn, pairs in enumerate(labelled_trees(5)):
            roads = [Road(*row) for row in varied_roads(pairs, turn)]
            self.assertEqual(Tree(5, roads).roads, tuple(roads))
            for at in range(1, 4):
                ring = list(roads)
                ring[at] = Road(roads[0].b, roads[0].a, 1)
                self.refuses(RingRoad, {"road": at}, Tree, 5, ring)


if __name__ == "__main__":
    unittest.main()
