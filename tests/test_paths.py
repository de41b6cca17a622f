"""[5]: distances and steps."""

import unittest
from fractions import Fraction

from asking import Asking, told
from oracle import Choices, Net, labelled_trees, varied_roads

from onetrain.errors import BadCount, NoRoad, OffRoad
from onetrain.places import Place, distance, key, shared_steps, step, steps_between
from onetrain.trees import Road, Tree

FORK = Tree(4, [Road(0, 1, 3), Road(0, 2, 2), Road(3, 0, 4)])
LINE = Tree(2, [Road(0, 1, 10)])
# Roads that are numbered and directed against the way from crossing 0 to 4.
CHAIN = Tree(5, [Road(4, 3, 5), Road(2, 3, 2), Road(2, 1, 3), Road(0, 1, 4)])


class Distances(Asking, unittest.TestCase):
    def test_on_one_road(self):
        self.assertEqual(distance(LINE, Place(0, 2, 1), Place(0, 9, 1)), (7, 1))
        self.assertEqual(distance(LINE, Place(0, 9, 1), Place(0, 2, 1)), (7, 1))

    def test_from_end_to_end(self):
        self.assertEqual(distance(LINE, Place(0, 0, 1), Place(0, 10, 1)), (10, 1))

    def test_fractions_with_equal_denominators(self):
        self.assertEqual(distance(LINE, Place(0, 1, 4), Place(0, 3, 4)), (1, 2))
        self.assertEqual(distance(LINE, Place(0, 1, 3), Place(0, 5, 3)), (4, 3))
        self.assertEqual(distance(FORK, Place(0, 1, 2), Place(1, 1, 2)), (1, 1))

    def test_fractions_with_different_denominators(self):
        self.assertEqual(distance(LINE, Place(0, 1, 6), Place(0, 3, 4)), (7, 12))
        self.assertEqual(distance(FORK, Place(0, 1, 2), Place(1, 1, 3)), (5, 6))
        self.assertEqual(distance(FORK, Place(2, 1, 2), Place(1, 2, 3)), (25, 6))
        self.assertEqual(distance(LINE, Place(0, 1, 1), Place(0, 1, 3)), (2, 3))

    def test_over_several_roads(self):
        start, end = Place(3, 1, 1), Place(0, 1, 2)
        self.assertEqual(distance(CHAIN, start, end), (25, 2))
        self.assertEqual(distance(CHAIN, end, start), (25, 2))
        self.assertEqual(distance(CHAIN, Place(3, 0, 1), Place(0, 0, 1)), (14, 1))

    def test_equal_places(self):
        for place in (Place(2, 0, 1), Place(2, 4, 1), Place(1, 1, 1), Place(1, 1, 7), Place(0, 1, 10 ** 30)):
            self.assertEqual(distance(FORK, place, Place(place.road, place.number, place.parts)), (0, 1))

    def test_places_of_one_crossing(self):
        middles = [Place(0, 0, 1), Place(1, 0, 1), Place(2, 4, 1)]
        for one in middles:
            for other in middles:
                self.assertEqual(distance(FORK, one, other), (0, 1))
            self.assertEqual(distance(FORK, one, Place(2, 7, 2)), (1, 2))

    def test_long_roads(self):
        long = 10 ** 9
        tree = Tree(24, [Road(at, at + 1, long) for at in range(23)])
        self.assertEqual(distance(tree, Place(0, 0, 1), Place(22, long, 1)), (23 * long, 1))
        self.assertEqual(distance(tree, Place(22, long - 1, 1), Place(0, 1, 1)), (23 * long - 2, 1))
        tiny = Place(0, 1, 10 ** 30)
        self.assertEqual(distance(tree, Place(22, long, 1), tiny), (23 * long * 10 ** 30 - 1, 10 ** 30))

    def test_by_keyword(self):
        self.assertEqual(distance(other=Place(1, 1, 1), tree=FORK, one=Place(0, 1, 1)), (2, 1))

    def test_the_result_is_a_tuple_of_integers(self):
        found = distance(FORK, Place(0, 1, 2), Place(1, 1, 3))
        self.assertEqual([type(found), type(found[0]), type(found[1])], [tuple, int, int])

    def test_errors_for_one_come_before_errors_for_other(self):
        self.refuses(NoRoad, {"road": 7}, distance, FORK, Place(7, 0, 1), Place(8, 0, 1))
        self.refuses(OffRoad, {"road": 1}, distance, FORK, Place(1, 3, 1), Place(8, 0, 1))
        self.refuses(OffRoad, {"road": 1}, distance, FORK, Place(1, 3, 1), Place(2, -1, 1))
        self.refuses(NoRoad, {"road": 8}, distance, FORK, Place(1, 1, 1), Place(8, 0, 1))
        self.refuses(OffRoad, {"road": 2}, distance, FORK, Place(1, 1, 1), Place(2, -1, 1))


class Steps(Asking, unittest.TestCase):
    def test_on_one_road_in_both_directions(self):
        self.is_place(step(LINE, Place(0, 2, 1), Place(0, 9, 1), 3), 0, 5)
        self.is_place(step(LINE, Place(0, 9, 1), Place(0, 2, 1), 3), 0, 6)

    def test_over_several_roads_in_both_directions(self):
        start, end = Place(3, 1, 1), Place(0, 1, 1)
        there = [(3, 1), (3, 2), (3, 3), (2, 3), (2, 2), (2, 1), (1, 0), (1, 1), (0, 5), (0, 4), (0, 3), (0, 2), (0, 1)]
        for steps, (road, number) in enumerate(there):
            self.is_place(step(CHAIN, start, end, steps), road, number)
        for steps, (road, number) in enumerate(reversed(there)):
            self.is_place(step(CHAIN, end, start, steps), road, number)

    def test_fractions_with_equal_denominators(self):
        self.is_place(step(LINE, Place(0, 1, 3), Place(0, 10, 3), 2), 0, 7, 3)
        self.is_place(step(FORK, Place(0, 5, 2), Place(1, 3, 2), 3), 1, 1, 2)

    def test_fractions_with_different_denominators(self):
        self.is_place(step(LINE, Place(0, 1, 2), Place(0, 10, 3), 2), 0, 5, 2)
        self.is_place(step(LINE, Place(0, 1, 2), Place(0, 10, 3), 3), 0, 10, 3)
        self.is_place(step(FORK, Place(0, 1, 2), Place(2, 5, 3), 1), 2, 7, 2)
        self.is_place(step(FORK, Place(2, 5, 3), Place(0, 1, 2), 2), 2, 11, 3)
        self.is_place(step(FORK, Place(0, 1, 1), Place(2, 5, 3), 2), 2, 3)

    def test_no_steps(self):
        self.is_place(step(FORK, Place(1, 3, 2), Place(0, 3, 1), 0), 1, 3, 2)
        self.is_place(step(FORK, Place(2, 4, 1), Place(1, 2, 1), 0), 0, 0)
        self.is_place(step(FORK, Place(1, 0, 1), Place(1, 2, 1), 0), 0, 0)

    def test_equal_places(self):
        for steps in (0, 1, 10 ** 30):
            self.is_place(step(FORK, Place(1, 1, 3), Place(1, 1, 3), steps), 1, 1, 3)
            self.is_place(step(FORK, Place(2, 4, 1), Place(2, 4, 1), steps), 0, 0)
            self.is_place(step(FORK, Place(2, 4, 1), Place(1, 0, 1), steps), 0, 0)

    def test_exactly_the_path_one_step_fewer_and_one_more(self):
        start, goal = Place(0, 2, 1), Place(2, 1, 1)
        self.is_place(step(FORK, start, goal, 4), 2, 2)
        self.is_place(step(FORK, start, goal, 5), 2, 1)
        self.is_place(step(FORK, start, goal, 6), 2, 1)
        self.is_place(step(FORK, start, goal, 10 ** 30), 2, 1)

    def test_the_goal_is_a_crossing(self):
        for goal in (Place(0, 0, 1), Place(1, 0, 1), Place(2, 4, 1)):
            self.is_place(step(FORK, Place(1, 2, 1), goal, 1), 1, 1)
            self.is_place(step(FORK, Place(1, 2, 1), goal, 2), 0, 0)
            self.is_place(step(FORK, Place(1, 2, 1), goal, 3), 0, 0)

    def test_a_crossing_on_the_way(self):
        self.is_place(step(FORK, Place(1, 2, 1), Place(2, 0, 1), 2), 0, 0)
        self.is_place(step(FORK, Place(2, 1, 2), Place(1, 2, 1), 3), 2, 7, 2)

    def test_the_start_is_a_crossing(self):
        for start in (Place(0, 0, 1), Place(1, 0, 1), Place(2, 4, 1)):
            self.is_place(step(FORK, start, Place(1, 2, 1), 1), 1, 1)
            self.is_place(step(FORK, start, Place(2, 0, 1), 1), 2, 3)
            self.is_place(step(FORK, start, Place(0, 3, 1), 1), 0, 1)

    def test_long_roads(self):
        long = 10 ** 9
        tree = Tree(3, [Road(1, 0, long), Road(1, 2, long)])
        start, goal = Place(0, long, 1), Place(1, long, 1)
        self.is_place(step(tree, start, goal, long - 1), 0, 1)
        self.is_place(step(tree, start, goal, long), 0, 0)
        self.is_place(step(tree, start, goal, long + 1), 1, 1)
        self.is_place(step(tree, start, goal, 2 * long - 1), 1, long - 1)
        self.is_place(step(tree, start, goal, 2 * long), 1, long)
        self.is_place(step(tree, start, goal, 2 * long + 1), 1, long)
        self.is_place(step(tree, Place(0, 1, 10 ** 30), goal, 1), 1, 10 ** 30 - 1, 10 ** 30)

    def test_by_keyword(self):
        self.is_place(step(steps=2, goal=Place(1, 2, 1), place=Place(0, 1, 1), tree=FORK), 1, 1)

    def test_the_arguments_do_not_change(self):
        start, goal = Place(2, 4, 1), Place(1, 0, 1)
        step(FORK, start, goal, 1)
        self.is_place(start, 2, 4)
        self.is_place(goal, 1, 0)
        self.assertEqual(FORK, Tree(4, [Road(0, 1, 3), Road(0, 2, 2), Road(3, 0, 4)]))

    def test_negative_steps(self):
        for steps in (-1, -2, -10 ** 30):
            self.refuses(BadCount, {"what": "steps", "count": steps}, step, FORK, Place(0, 1, 1), Place(1, 1, 1), steps)
            self.refuses(BadCount, {"what": "steps", "count": steps}, step, FORK, Place(0, 1, 1), Place(0, 1, 1), steps)

    def test_the_order_of_the_errors(self):
        fine = Place(0, 1, 1)
        self.refuses(NoRoad, {"road": 7}, step, FORK, Place(7, 0, 1), Place(8, 0, 1), -1)
        self.refuses(OffRoad, {"road": 1}, step, FORK, Place(1, 3, 1), Place(8, 0, 1), -1)
        self.refuses(NoRoad, {"road": 8}, step, FORK, fine, Place(8, 0, 1), -1)
        self.refuses(OffRoad, {"road": 2}, step, FORK, fine, Place(2, 9, 2), -1)
        self.refuses(BadCount, {"what": "steps", "count": -1}, step, FORK, fine, fine, -1)
        self.refuses(OffRoad, {"road": 2}, step, FORK, fine, Place(2, 9, 2), 0)
        self.refuses(NoRoad, {"road": -1}, step, FORK, Place(-1, 9, 2), fine, 0)


class WholePlaces(unittest.TestCase):
    """What the rest of the package asks about whole places alone."""

    def test_steps_between(self):
        self.assertEqual(steps_between(FORK, Place(0, 2, 1), Place(2, 3, 1)), 3)
        self.assertEqual(steps_between(FORK, Place(2, 4, 1), Place(1, 0, 1)), 0)

    def test_shared_steps(self):
        start = Place(2, 1, 1)
        for one, other, expected in [((0, 3), (1, 2), 3), ((0, 3), (0, 1), 4), ((0, 1), (0, 3), 4), ((2, 0), (0, 3), 0),
                                     ((2, 3), (0, 3), 2), ((2, 1), (0, 3), 0), ((1, 2), (1, 2), 5), ((0, 0), (1, 1), 3)]:
            self.assertEqual(shared_steps(FORK, start, Place(*one, 1), Place(*other, 1)), expected)

    def test_shared_steps_are_those_that_lead_to_the_same_places(self):
        for seed in range(20):
            choices = Choices(seed)
            roads = choices.roads(6, 4)
            tree = Tree(6, [Road(*road) for road in roads])
            start, one, other = [Place(road, number, 1) for road, number, _ in choices.marches(roads, 3, 1)]
            shared = 0
            while (shared < min(steps_between(tree, start, one), steps_between(tree, start, other))
                   and step(tree, start, one, shared + 1) == step(tree, start, other, shared + 1)):
                shared += 1
            self.assertEqual(shared_steps(tree, start, one, other), shared)


class AgainstCounting(unittest.TestCase):
    def points(self, roads, parts):
        return [
            Place(road, number, parts)
            for road, (a, b, length) in enumerate(roads)
            for number in range(length * parts + 1)
        ]

    def compare(self, roads, one_parts, other_parts):
        crossings = len(roads) + 1
        parts = one_parts * other_parts
        tree = Tree(crossings, [Road(*road) for road in roads])
        net = Net(crossings, roads, parts)
        for goal in self.points(roads, other_parts):
            counts = net.counts_to(net.of(*told(goal)))
            for start in self.points(roads, one_parts):
                spot = net.of(*told(start))
                expected = Fraction(counts[spot], parts)
                self.assertEqual(distance(tree, start, goal), (expected.numerator, expected.denominator))
                steps = 0
                while True:
                    self.assertEqual(told(step(tree, start, goal, steps)), net.names[spot])
                    if counts[spot] == 0:
                        break
                    spot = net.walk(spot, counts, parts)
                    steps += 1
                self.assertEqual(step(tree, start, goal, steps + 1), key(tree, goal))

    def test_whole_places_of_all_trees_of_five_crossings(self):
        for turn, pairs in enumerate(labelled_trees(5)):
            self.compare(varied_roads(pairs, turn), 1, 1)

    def test_fractions_of_all_trees_of_four_crossings(self):
        for turn, pairs in enumerate(labelled_trees(4)):
            for one_parts, other_parts in [(2, 3), (3, 1), (1, 2), (2, 2)]:
                self.compare(varied_roads(pairs, turn + one_parts), one_parts, other_parts)


if __name__ == "__main__":
    unittest.main()
