"""[6]: marches, rows of marches, and where they lead one person."""

import unittest
from fractions import Fraction

from asking import Asking, Everything, march_of, place_of, row_of, told, tree_of
from oracle import Choices, Net

from onetrain.errors import BadCount, NoRoad, NotWhole, OffRoad
from onetrain.marches import March, Row, after
from onetrain.places import Place, distance, step
from onetrain.trees import Road, Tree

# Crossing 0 ends roads 0, 1 and 2: at `a`, at `a` and at `b`.
ROADS = [(0, 1, 3), (0, 2, 2), (3, 0, 4)]
FORK = tree_of(ROADS)
MIDDLES = [Place(0, 0, 1), Place(1, 0, 1), Place(2, 4, 1)]
LONG = 10 ** 9


class Marches(Asking, unittest.TestCase):
    def test_fields(self):
        goal = Place(0, 1, 1)
        march = March(goal, 2)
        self.assertIs(march.goal, goal)
        self.assertEqual(march.steps, 2)
        self.assertEqual(vars(March(steps=2, goal=goal)), {"goal": goal, "steps": 2})

    def test_creating_a_march_raises_no_error(self):
        for goal in (Place(-1, 0, 1), Place(99, -5, 3), Place(0, 10 ** 30, 1), Place(0, 1, 2)):
            for steps in (0, -1, LONG + 1, 10 ** 30, -10 ** 30):
                march = March(goal, steps)
                self.assertEqual((march.goal, march.steps), (goal, steps))

    def test_equal_if_both_fields_are_equal(self):
        self.assertIs(March(Place(0, 2, 2), 3) == March(Place(0, 1, 1), 3), True)
        self.assertIs(March(Place(0, 2, 2), 3) != March(Place(0, 1, 1), 3), False)
        for other in (March(Place(0, 2, 1), 3), March(Place(1, 1, 1), 3), March(Place(0, 1, 1), 4)):
            self.assertIs(March(Place(0, 1, 1), 3) == other, False)
            self.assertIs(March(Place(0, 1, 1), 3) != other, True)

    def test_goals_of_marches_are_not_compared_by_key(self):
        self.assertNotEqual(March(Place(0, 0, 1), 3), March(Place(1, 0, 1), 3))

    def test_never_equal_to_other_values(self):
        goal = Place(0, 1, 1)
        for other in [(goal, 3), [goal, 3], goal, 3, None, "0:1 3", Row(FORK, [March(goal, 3)]), Everything()]:
            self.assertIs(March(goal, 3) == other, False)


class Rows(Asking, unittest.TestCase):
    def test_fields(self):
        marches = [March(Place(0, 3, 1), 2), March(Place(2, 4, 1), 1)]
        row = Row(marches=marches, tree=FORK)
        self.assertIs(row.tree, FORK)
        self.assertIs(type(row.marches), tuple)
        self.assertEqual(row.marches, tuple(marches))

    def test_goals_are_kept_as_they_were_passed(self):
        row = Row(FORK, [March(middle, 1) for middle in MIDDLES])
        self.assertEqual([told(march.goal) for march in row.marches], [(0, 0), (1, 0), (2, 4)])

    def test_up_to_24_marches(self):
        for many in (0, 1, 2, 23, 24):
            row = Row(FORK, [March(Place(0, 1, 1), 1 + at) for at in range(many)])
            self.assertEqual([march.steps for march in row.marches], list(range(1, many + 1)))

    def test_more_marches(self):
        for many in (25, 26, 48, 1000):
            self.refuses(BadCount, {"what": "marches", "count": many}, Row, FORK, [March(Place(0, 1, 1), 1)] * many)
            self.refuses(BadCount, {"what": "marches", "count": many}, Row, FORK, (March(Place(9, 1, 2), 0),) * many)

    def test_a_list_that_changes_later_has_no_effect(self):
        marches = [March(Place(0, 3, 1), 2), March(Place(2, 4, 1), 1)]
        row = Row(FORK, marches)
        marches.append(March(Place(0, 0, 1), 1))
        marches[0] = March(Place(1, 0, 1), 7)
        self.assertEqual(row, Row(FORK, [March(Place(0, 3, 1), 2), March(Place(2, 4, 1), 1)]))
        marches.clear()
        self.is_place(after(row, Place(0, 1, 1)), 0, 2)

    def test_the_arguments_do_not_change(self):
        marches = [March(Place(2, 4, 1), 2), March(Place(1, 0, 1), 1)]
        Row(FORK, marches)
        self.assertEqual([(told(march.goal), march.steps) for march in marches], [((2, 4), 2), ((1, 0), 1)])
        self.assertEqual(FORK, tree_of(ROADS))

    def test_a_list_and_a_tuple_make_equal_rows(self):
        marches = [March(Place(0, 3, 1), 2), March(Place(2, 1, 1), 1)]
        self.assertIs(Row(FORK, marches) == Row(FORK, tuple(marches)), True)
        self.assertIs(Row(FORK, []) == Row(FORK, ()), True)


class Equality(unittest.TestCase):
    def test_goals_by_key(self):
        for one in MIDDLES:
            for other in MIDDLES:
                self.assertIs(Row(FORK, [March(one, 2)]) == Row(FORK, [March(other, 2)]), True)
                self.assertIs(Row(FORK, [March(one, 2)]) != Row(FORK, [March(other, 2)]), False)
                self.assertIs(Row(FORK, [March(one, 2)]) == Row(FORK, [March(other, 3)]), False)

    def test_equal_trees_need_not_be_one(self):
        marches = [March(Place(2, 1, 1), 2)]
        self.assertIs(Row(FORK, marches) == Row(tree_of(ROADS), marches), True)

    def test_other_trees(self):
        marches = [March(Place(0, 0, 1), 1)]
        for roads in ([(0, 1, 4), (0, 2, 2), (3, 0, 4)], [(0, 1, 3), (2, 0, 2), (3, 0, 4)], [(0, 1, 3)]):
            self.assertIs(Row(FORK, marches) == row_of(roads, [(0, 0, 1)]), False)
            self.assertIs(Row(FORK, []) != row_of(roads, []), True)

    def test_other_marches(self):
        row = row_of(ROADS, [(0, 3, 2), (2, 1, 1)])
        others = [
            [], [(0, 3, 2)], [(2, 1, 1)], [(2, 1, 1), (0, 3, 2)], [(0, 3, 2), (2, 1, 2)], [(0, 2, 2), (2, 1, 1)],
            [(0, 3, 2), (1, 1, 1)], [(0, 3, 2), (2, 1, 1), (2, 1, 1)],
        ]
        for marches in others:
            self.assertIs(row == row_of(ROADS, marches), False)
            self.assertIs(row_of(ROADS, marches) == row, False)
            self.assertIs(row != row_of(ROADS, marches), True)

    def test_rows_that_do_the_same_need_not_be_equal(self):
        self.assertNotEqual(row_of(ROADS, [(0, 0, 1), (0, 0, 1)]), row_of(ROADS, [(0, 0, 2)]))

    def test_never_equal_to_other_values(self):
        march = March(Place(0, 1, 1), 1)
        for other in [march, (march,), [march], FORK, (FORK, (march,)), None, "0:1 1", 0, Everything()]:
            self.assertIs(Row(FORK, [march]) == other, False)


class InvalidMarches(Asking, unittest.TestCase):
    def row_refuses(self, error, fields, *marches):
        self.refuses(error, fields, Row, FORK, list(marches))
        self.refuses(error, fields, Row, FORK, tuple(marches))

    def test_roads_that_the_tree_does_not_have(self):
        for road in (-1, -3, 3, 4, 10 ** 30, -10 ** 30):
            self.row_refuses(NoRoad, {"road": road}, March(Place(road, 1, 1), 1))
            self.row_refuses(NoRoad, {"road": road}, March(Place(road, -1, 2), 0))

    def test_goals_beyond_an_end(self):
        for road, length in enumerate((3, 2, 4)):
            for number in (-1, -10 ** 30, length + 1, 10 ** 30):
                self.row_refuses(OffRoad, {"road": road}, March(Place(road, number, 1), 1))
            for number, parts in [(-1, 2), (2 * length + 1, 2), (length * 10 ** 30 + 1, 10 ** 30)]:
                self.row_refuses(OffRoad, {"road": road}, March(Place(road, number, parts), 0))

    def test_goals_that_are_not_whole(self):
        fine = march_of(0, 1, 1)
        for goal in (Place(0, 1, 2), Place(2, 11, 3), Place(1, 1, 10 ** 30)):
            for at in (0, 1, 5, 23):
                self.row_refuses(NotWhole, {"march": at}, *[fine] * at, March(goal, 1))
                self.row_refuses(NotWhole, {"march": at}, *[fine] * at, March(goal, 0))

    def test_goals_that_are_whole_in_lowest_terms(self):
        row = Row(FORK, [March(Place(0, 6, 3), 1)])
        self.is_place(row.marches[0].goal, 0, 2)

    def test_steps(self):
        for steps in (0, -1, -10 ** 30, LONG + 1, 10 ** 30):
            self.row_refuses(BadCount, {"what": "steps", "count": steps}, march_of(0, 1, steps))
        for steps in (1, 2, LONG - 1, LONG):
            self.assertEqual(Row(FORK, [march_of(0, 1, steps)]).marches[0].steps, steps)

    def test_the_first_invalid_march_counts(self):
        fine = march_of(1, 2, LONG)
        bad = [
            (March(Place(7, 0, 1), 1), NoRoad, {"road": 7}),
            (March(Place(2, 5, 1), 1), OffRoad, {"road": 2}),
            (March(Place(2, 1, 2), 1), NotWhole, None),
            (march_of(0, 1, 0), BadCount, {"what": "steps", "count": 0}),
        ]
        for first, error, fields in bad:
            for second, _, _ in bad:
                for third, _, _ in bad:
                    self.row_refuses(error, fields or {"march": 0}, first, second)
                    self.row_refuses(error, fields or {"march": 0}, first, second, third)
                    self.row_refuses(error, fields or {"march": 1}, fine, first, fine, second, third)

    def test_two_faults_of_one_march_in_the_order_of_the_document(self):
        self.row_refuses(NoRoad, {"road": 3}, March(Place(3, -1, 2), 0))
        self.row_refuses(OffRoad, {"road": 2}, March(Place(2, -1, 2), 0))
        self.row_refuses(OffRoad, {"road": 2}, March(Place(2, 9, 2), 0))
        self.row_refuses(NotWhole, {"march": 0}, March(Place(2, 1, 2), LONG + 1))

    def test_too_many_marches_come_first(self):
        self.row_refuses(BadCount, {"what": "marches", "count": 25}, *[March(Place(7, 1, 2), 0)] * 25)


class After(Asking, unittest.TestCase):
    def test_one_march_moves_towards_the_goal_and_stops_there(self):
        row = row_of(ROADS, [(0, 3, 2)])
        for place, there in [((0, 3), (0, 3)), ((0, 2), (0, 3)), ((0, 1), (0, 3)), ((0, 0), (0, 2)), ((1, 1), (0, 1)),
                             ((1, 2), (0, 0)), ((2, 4), (0, 2)), ((2, 3), (0, 1)), ((2, 2), (0, 0)), ((2, 0), (2, 2))]:
            self.is_place(after(row, Place(*place, 1)), *there)

    def test_marches_in_their_order(self):
        self.is_place(after(row_of(ROADS, [(0, 3, 2), (1, 2, 1)]), Place(2, 3, 1)), 0, 0)
        self.is_place(after(row_of(ROADS, [(1, 2, 1), (0, 3, 2)]), Place(2, 3, 1)), 0, 2)

    def test_fractional_places(self):
        row = row_of(ROADS, [(0, 3, 2)])
        self.is_place(after(row, Place(0, 1, 2)), 0, 5, 2)
        self.is_place(after(row, Place(0, 3, 2)), 0, 3)
        self.is_place(after(row, Place(1, 5, 3)), 0, 1, 3)
        self.is_place(after(row, Place(2, 1, 10 ** 30)), 2, 2 * 10 ** 30 + 1, 10 ** 30)
        self.is_place(after(row, Place(2, 9, 4), rounds=2), 0, 9, 4)

    def test_a_row_without_marches(self):
        for rounds in (0, 1, 1000):
            self.is_place(after(Row(FORK, []), Place(2, 4, 1), rounds=rounds), 0, 0)
            self.is_place(after(Row(FORK, []), Place(2, 1, 2), rounds=rounds), 2, 1, 2)

    def test_no_rounds(self):
        row = row_of(ROADS, [(0, 3, 2)])
        self.is_place(after(row, Place(2, 4, 1), rounds=0), 0, 0)
        self.is_place(after(row, Place(1, 1, 3), rounds=0), 1, 1, 3)

    def test_several_rounds(self):
        row = row_of([(0, 1, 2500)], [(0, 2500, 3), (0, 0, 1)])
        for rounds in (0, 1, 2, 7, 999, 1000):
            self.is_place(after(row, Place(0, 0, 1), rounds=rounds), 0, 2 * rounds)
            there = Fraction(1, 3) + 2 * rounds
            self.is_place(after(row, Place(0, 1, 3), rounds=rounds), 0, there.numerator, 3)

    def test_one_round_unless_told_otherwise(self):
        row = row_of([(0, 1, 2500)], [(0, 2500, 3)])
        self.assertEqual(after(row, Place(0, 1, 1)), after(row, Place(0, 1, 1), rounds=1))

    def test_by_keyword(self):
        row = row_of(ROADS, [(0, 3, 2)])
        self.is_place(after(rounds=2, place=Place(2, 3, 1), row=row), 0, 3)
        self.is_place(after(row, place=Place(2, 3, 1)), 0, 1)

    def test_rounds_by_keyword_alone(self):
        with self.assertRaises(TypeError):
            after(Row(FORK, []), Place(0, 1, 1), 1)

    def test_long_roads(self):
        row = row_of([(1, 0, LONG), (1, 2, LONG)], [(1, LONG, LONG), (0, LONG, 1)])
        self.is_place(after(row, Place(0, LONG, 1)), 0, 1)
        self.is_place(after(row, Place(0, LONG - 1, 1)), 0, 0)
        self.is_place(after(row, Place(0, LONG - 2, 1)), 1, 1)
        self.is_place(after(row, Place(1, LONG, 1), rounds=1000), 1, LONG - 1)
        tiny = 10 ** 30
        self.is_place(after(row, Place(0, LONG * tiny - 1, tiny)), 0, tiny - 1, tiny)

    def test_a_thousand_rounds_of_24_marches(self):
        row = row_of([(0, 1, LONG), (1, 2, LONG), (1, 3, LONG)], [(1, LONG, 2 + at) for at in range(23)] + [(0, 0, 5)])
        moved = 1000 * (sum(range(2, 25)) - 5)
        self.is_place(after(row, Place(0, 0, 1), rounds=1000), 0, moved)

    def test_rounds_out_of_range(self):
        for row in (row_of(ROADS, [(0, 3, 2)]), row_of(ROADS, [])):
            for rounds in (-1, -10 ** 30, 1001, 1002, 10 ** 30):
                self.refuses(BadCount, {"what": "rounds", "count": rounds}, after, row, Place(0, 1, 1), rounds=rounds)

    def test_places_that_the_tree_does_not_have(self):
        row = row_of(ROADS, [(0, 3, 2)])
        for rounds in (-1, 0, 1, 1001):
            self.refuses(NoRoad, {"road": 3}, after, row, Place(3, 0, 1), rounds=rounds)
            self.refuses(NoRoad, {"road": -1}, after, row, Place(-1, -1, 1), rounds=rounds)
            self.refuses(OffRoad, {"road": 2}, after, row, Place(2, -1, 3), rounds=rounds)
            self.refuses(OffRoad, {"road": 1}, after, row, Place(1, 5, 2), rounds=rounds)

    def test_the_arguments_do_not_change(self):
        row, place = row_of(ROADS, [(2, 4, 1)]), Place(1, 0, 1)
        after(row, place, rounds=3)
        self.is_place(place, 1, 0)
        self.is_place(row.marches[0].goal, 2, 4)
        self.assertEqual(row, row_of(ROADS, [(2, 4, 1)]))

    def test_equal_arguments_give_equal_results(self):
        for marches in ([(2, 4, 1)], [(1, 0, 1)]):
            self.is_place(after(row_of(ROADS, marches), Place(0, 3, 1)), 0, 2)
            self.is_place(after(row_of(ROADS, marches), Place(0, 3, 1), rounds=3), 0, 0)


class AgainstCounting(unittest.TestCase):
    def test_every_place_of_many_trees(self):
        for seed in range(60):
            choices = Choices(seed)
            parts = 1 + seed % 3
            roads = choices.roads(2 + choices.below(7), 5)
            marches = choices.marches(roads, choices.below(7), 6)
            net = Net(len(roads) + 1, roads, parts)
            images = net.images(marches)
            row = row_of(roads, marches)
            for name, spot in net.keys_in_order():
                self.assertEqual(told(after(row, place_of(name))), net.names[images[spot]])
                thrice = images[images[images[spot]]]
                self.assertEqual(told(after(row, place_of(name), rounds=3)), net.names[thrice])


class TwoFacts(unittest.TestCase):
    """A march never increases a distance, and whole places tell what happens to the positions between them."""

    def setUp(self):
        self.cases = []
        for seed in range(40):
            choices = Choices(seed)
            roads = choices.roads(2 + choices.below(6), 4)
            self.cases.append((roads, choices.marches(roads, 1 + choices.below(4), 5)))

    def far(self, tree, one, other):
        return Fraction(*distance(tree, one, other))

    def test_no_distance_increases(self):
        for at, (roads, marches) in enumerate(self.cases):
            row = row_of(roads, marches)
            net = Net(len(roads) + 1, roads, 1 + at % 2)
            places = [place_of(name) for name, _ in net.keys_in_order()]
            images = [after(row, place) for place in places]
            for one, one_image in zip(places, images):
                for other, other_image in zip(places, images):
                    self.assertLessEqual(self.far(row.tree, one_image, other_image), self.far(row.tree, one, other))

    def test_between_neighbouring_whole_places(self):
        parts = 4
        for roads, marches in self.cases:
            row = row_of(roads, marches)
            for road, (a, b, length) in enumerate(roads):
                for number in range(length):
                    start = after(row, Place(road, number, 1))
                    end = after(row, Place(road, number + 1, 1))
                    size = self.far(row.tree, start, end)
                    self.assertIn(size, (0, 1))
                    for part in range(parts + 1):
                        between = after(row, Place(road, number * parts + part, parts))
                        self.assertEqual(self.far(row.tree, start, between), size * Fraction(part, parts))
                        self.assertEqual(self.far(row.tree, between, end), size * Fraction(parts - part, parts))

    def test_a_march_is_a_step_of_everyone(self):
        tree = Tree(3, [Road(0, 1, 4), Road(2, 1, 5)])
        row = Row(tree, [March(Place(1, 2, 1), 3)])
        for place in (Place(0, 0, 1), Place(0, 7, 2), Place(1, 5, 1), Place(1, 1, 3)):
            self.assertEqual(after(row, place), step(tree, place, Place(1, 2, 1), 3))


if __name__ == "__main__":
    unittest.main()
