"""[11]: the train that a repeated row ends in."""

import unittest
from fractions import Fraction

from asking import Asking, Everything, place_of, row_of, told, tree_of
from oracle import Choices, Net, labelled_trees, varied_roads
from rounds import any_rows, carrying_rows, train_of
from wide import (
    EXACTLY_400, EXACTLY_401, EXACTLY_630, GATHER, LONG_STAR, SCALE, STAR, TWICE_400, TWICE_401, tip_marches,
)

from onetrain.doings import doing
from onetrain.errors import BadCount, Wide
from onetrain.marches import Row, after
from onetrain.places import Place, key
from onetrain.trains import Train, is_train, train

FORK = [(0, 1, 3), (0, 2, 2), (3, 0, 4)]
LINE = [(0, 1, 10)]
BEAM = [(0, 1, 10), (0, 2, 10), (0, 3, 10)]
LONG = 10 ** 9


def values(found):
    """A train as (one, other, is_turned, stands), with pairs (road, fraction) for places."""
    stands = [(told(one), told(other)) for one, other in found.stands]
    return (told(found.one), told(found.other), found.is_turned, stands)


class Trains(unittest.TestCase):
    def setUp(self):
        self.one, self.other, self.third = Place(0, 1, 1), Place(1, 2, 1), Place(2, 3, 1)
        self.stands = [(self.one, self.other), (self.third, self.one)]

    def test_fields(self):
        trains = [
            Train(self.one, self.other, True, self.stands),
            Train(stands=self.stands, is_turned=True, other=self.other, one=self.one),
        ]
        for found in trains:
            self.assertIs(found.one, self.one)
            self.assertIs(found.other, self.other)
            self.assertIs(found.is_turned, True)
            self.assertEqual(found.stands, self.stands)

    def test_stands_are_stored_as_a_list_of_tuples(self):
        one, other, third = self.one, self.other, self.third
        for stands in [
            [(one, other), (third, one)], ((one, other), (third, one)), [[one, other], [third, one]],
            ([one, other], [third, one]), [(one, other), [third, one]],
        ]:
            found = Train(one, other, False, stands)
            self.assertIs(type(found.stands), list)
            self.assertEqual([type(pair) for pair in found.stands], [tuple, tuple])
            self.assertEqual(found.stands, self.stands)
            self.assertEqual(found, Train(one, other, False, self.stands))

    def test_lists_that_change_later_have_no_effect(self):
        pair = [self.one, self.other]
        stands = [pair, (self.third, self.one)]
        found = Train(self.one, self.other, False, stands)
        pair[0] = self.third
        stands.append((self.one, self.one))
        self.assertEqual(found.stands, self.stands)

    def test_the_arguments_do_not_change(self):
        stands = [[self.one, self.other], (self.third, self.one)]
        Train(self.one, self.other, False, stands)
        self.assertEqual(stands, [[self.one, self.other], (self.third, self.one)])
        self.assertEqual([type(pair) for pair in stands], [list, tuple])

    def test_creating_a_train_raises_no_error(self):
        nowhere = Place(-7, -1, 2)
        for stands in ([], [(nowhere, nowhere)] * 100):
            found = Train(nowhere, self.one, True, stands)
            self.assertEqual(found.stands, stands)

    def test_equal_if_all_fields_are_equal(self):
        found = Train(self.one, self.other, True, self.stands)
        same = Train(Place(0, 3, 3), Place(1, 2, 1), True, [(Place(0, 1, 1), self.other), (self.third, self.one)])
        self.assertIs(found == same, True)
        self.assertIs(found != same, False)

    def test_not_equal_otherwise(self):
        one, other, stands = self.one, self.other, self.stands
        for wrong in [
            Train(self.third, other, True, stands), Train(one, self.third, True, stands),
            Train(one, other, False, stands), Train(one, other, True, stands[::-1]),
            Train(one, other, True, stands[:1]), Train(one, other, True, stands + stands[:1]),
            Train(one, other, True, []), Train(other, one, True, stands),
            Train(one, other, True, [(other, one), stands[1]]), Train(one, other, True, [stands[0], (one, one)]),
        ]:
            self.assertIs(Train(one, other, True, stands) == wrong, False)
            self.assertIs(Train(one, other, True, stands) != wrong, True)

    def test_never_equal_to_other_values(self):
        found = Train(self.one, self.other, True, self.stands)
        for other in [(self.one, self.other, True, self.stands), self.stands, self.one, None, True, Everything()]:
            self.assertIs(found == other, False)


class EndsIn(Asking, unittest.TestCase):
    """Single trains, some of them worked out by hand."""

    def ends_in(self, roads, marches, expected):
        row = row_of(roads, marches)
        found = train(row)
        self.assertIs(type(found), Train)
        self.assertIs(type(found.stands), list)
        self.assertEqual({type(pair) for pair in found.stands}, {tuple})
        self.assertEqual(values(found), expected)
        self.assertIs(found.is_turned, expected[2])
        if sum(length for _, _, length in roads) < LONG:
            self.assertEqual(train_of(Net(len(roads) + 1, roads, 1), marches), expected)
        self.assertIs(is_train(row, found), True)

    def test_a_single_position(self):
        self.ends_in(LINE, [(0, 4, 1)], ((0, 4), (0, 4), False, [((0, 4), (0, 4))] * 2))
        self.ends_in(LINE, [(0, 10, 10)], ((0, 10), (0, 10), False, [((0, 10), (0, 10))] * 2))
        self.ends_in(LINE, [(0, 0, 1)], ((0, 0), (0, 0), False, [((0, 0), (0, 0))] * 2))

    def test_a_single_position_that_moves_and_comes_back(self):
        self.ends_in(LINE, [(0, 10, 20), (0, 0, 4), (0, 3, 1)], (
            (0, 5), (0, 5), False, [((0, 5), (0, 5)), ((0, 10), (0, 10)), ((0, 6), (0, 6)), ((0, 5), (0, 5))],
        ))

    def test_a_single_crossing(self):
        for goal in [(0, 0), (1, 0), (2, 4)]:
            self.ends_in(FORK, [(*goal, 1)], ((0, 0), (0, 0), False, [((0, 0), (0, 0))] * 2))
        self.ends_in(FORK, [(2, 0, 9)], ((2, 0), (2, 0), False, [((2, 0), (2, 0))] * 2))

    def test_a_part_of_one_road(self):
        self.ends_in(LINE, [(0, 0, 4), (0, 10, 4)], (
            (0, 4), (0, 10), False, [((0, 4), (0, 10)), ((0, 0), (0, 6)), ((0, 4), (0, 10))],
        ))
        self.ends_in(LINE, [(0, 0, 4), (0, 10, 2), (0, 10, 1), (0, 0, 1), (0, 10, 2)], (
            (0, 4), (0, 10), False,
            [((0, 4), (0, 10)), ((0, 0), (0, 6)), ((0, 2), (0, 8)), ((0, 3), (0, 9)), ((0, 2), (0, 8)), ((0, 4), (0, 10))],
        ))

    def test_a_train_over_several_roads(self):
        # From end to end of the line that the three roads are, less two steps.
        roads = [(2, 1, 3), (0, 1, 2), (2, 3, 1)]
        self.ends_in(roads, [(1, 0, 2), (2, 1, 2)], (
            (0, 3), (2, 1), False, [((0, 3), (2, 1)), ((1, 0), (0, 1)), ((0, 3), (2, 1))],
        ))
        self.ends_in(roads, [(1, 0, 1), (2, 1, 1)], (
            (1, 1), (2, 1), False, [((1, 1), (2, 1)), ((1, 0), (0, 0)), ((1, 1), (2, 1))],
        ))

    def test_the_example_over_two_roads(self):
        self.ends_in(FORK, [(0, 3, 2), (2, 0, 2)], (
            (0, 1), (2, 0), False, [((0, 1), (2, 0)), ((0, 3), (2, 2)), ((0, 1), (2, 0))],
        ))

    def test_a_train_that_is_reversed(self):
        self.ends_in(BEAM, [(1, 10, 5), (2, 10, 6), (0, 10, 5)], (
            (0, 0), (0, 4), True, [((0, 0), (0, 4)), ((1, 5), (1, 1)), ((2, 1), (2, 5)), ((0, 4), (0, 0))],
        ))

    def test_a_long_train_that_is_reversed(self):
        roads = [(0, arm, LONG) for arm in (1, 2, 3)]
        half = LONG // 2
        self.ends_in(roads, [(1, LONG, half), (2, LONG, half + 1), (0, LONG, half)], (
            (0, 0), (0, half - 1), True,
            [((0, 0), (0, half - 1)), ((1, half), (1, 1)), ((2, 1), (2, half)), ((0, half - 1), (0, 0))],
        ))

    def test_long_roads(self):
        self.ends_in([(0, 1, LONG)], [(0, 0, 1), (0, LONG, 1)], (
            (0, 1), (0, LONG), False, [((0, 1), (0, LONG)), ((0, 0), (0, LONG - 1)), ((0, 1), (0, LONG))],
        ))
        self.ends_in([(0, 1, LONG)], [(0, 0, 1)], ((0, 0), (0, 0), False, [((0, 0), (0, 0))] * 2))
        roads = [(at, at + 1, LONG) for at in range(23)]
        self.ends_in(roads, [(0, 0, 7), (22, LONG, 7)], (
            (0, 7), (22, LONG), False, [((0, 7), (22, LONG)), ((0, 0), (22, LONG - 7)), ((0, 7), (22, LONG))],
        ))

    def test_24_marches(self):
        marches = [(0, 0, 1), (0, 10, 1)] * 12
        pairs = [((0, 1), (0, 10)), ((0, 0), (0, 9))]
        self.ends_in(LINE, marches, ((0, 1), (0, 10), False, pairs * 12 + pairs[:1]))
        long_line = [(0, 1, LONG)]
        found = train(row_of(long_line, [(0, 0, 40), *[(0, LONG, 1)] * 23]))
        self.assertEqual(values(found)[:3], ((0, 23), (0, 23), False))
        marches = [(0, 0, 23), *[(0, LONG, 1)] * 23]
        found = train(row_of(long_line, marches))
        self.assertEqual(values(found)[:3], ((0, 23), (0, LONG), False))
        self.assertEqual(len(found.stands), 25)
        self.assertEqual(values(found)[3][:3], [((0, 23), (0, LONG)), ((0, 0), (0, LONG - 23)), ((0, 1), (0, LONG - 22))])

    def test_by_keyword(self):
        self.assertEqual(values(train(row=row_of(LINE, [(0, 4, 1)])))[:2], ((0, 4), (0, 4)))


class Errors(Asking, unittest.TestCase):
    def test_a_row_without_marches(self):
        for roads in (FORK, LINE, STAR):
            self.refuses(BadCount, {"what": "marches", "count": 0}, train, row_of(roads, []))

    def test_rows_that_are_too_wide(self):
        for pairs in (EXACTLY_401, EXACTLY_630, EXACTLY_401 + GATHER, EXACTLY_630 + GATHER):
            self.refuses(Wide, {"count": 401}, train, row_of(STAR, tip_marches(pairs)))

    def test_a_row_whose_repetition_is_too_wide(self):
        for roads, scale in ((STAR, 1), (LONG_STAR, SCALE)):
            for pairs in (TWICE_401, EXACTLY_400):
                row = row_of(roads, tip_marches(pairs, scale))
                self.assertLessEqual(len(doing(row)), 400)
                self.refuses(Wide, {"count": 401}, train, row)

    def test_a_row_whose_repetition_has_400_stretches(self):
        expected = train_of(Net(9, STAR, 1), tip_marches(TWICE_400))
        self.assertEqual(values(train(row_of(STAR, tip_marches(TWICE_400)))), expected)
        found = values(train(row_of(LONG_STAR, tip_marches(TWICE_400, SCALE))))
        one, other, is_turned, stands = expected
        self.assertEqual(found[:3], ((one[0], one[1] * SCALE), (other[0], other[1] * SCALE), is_turned))
        self.assertEqual(len(found[3]), len(stands))

    def test_wide_rows_that_end_in_one_position(self):
        found = train(row_of(STAR, tip_marches(EXACTLY_400 + GATHER)))
        self.assertEqual(values(found)[:3], ((0, 100), (0, 100), False))


class Conventions(unittest.TestCase):
    def test_the_list_of_stands_belongs_to_the_caller(self):
        row = row_of(FORK, [(0, 3, 2), (2, 0, 2)])
        expected = values(train(row))
        found = train(row)
        found.stands.pop()
        found.stands[0] = None
        self.assertEqual(values(train(row)), expected)

    def test_the_row_does_not_change(self):
        row = row_of(FORK, [(2, 4, 1), (1, 0, 2)])
        train(row)
        self.assertEqual([(told(march.goal), march.steps) for march in row.marches], [((2, 4), 1), ((1, 0), 2)])
        self.assertEqual(row.tree, tree_of(FORK))

    def test_equal_rows_have_equal_trains(self):
        for goal in [(0, 0), (1, 0), (2, 4)]:
            row = row_of(FORK, [(*goal, 2), (2, 0, 1)])
            self.assertEqual(train(row), train(row_of(FORK, [(0, 0, 2), (2, 0, 1)])))
            self.assertEqual(train(row), train(row))
            self.assertEqual(train(Row(row.tree, list(row.marches))), train(Row(tree_of(FORK), row.marches)))


class AgainstWalking(unittest.TestCase):
    """Compared with the places that two rounds of a walk leave in place."""

    def compare(self, roads, marches):
        found = train(row_of(roads, marches))
        self.assertEqual(values(found), train_of(Net(len(roads) + 1, roads, 1), marches))
        return (found.one != found.other, found.is_turned, found.one.road != found.other.road)

    def test_many_rows(self):
        kinds = [self.compare(*row) for row in any_rows(6000, 400)]
        self.assertGreater(kinds.count((False, False, False)), 200)

    def test_rows_that_carry_a_train(self):
        kinds = [self.compare(*row) for row in carrying_rows(6100, 300)]
        for several in (True, False):
            self.assertGreater(kinds.count((True, False, several)), 40)

    def test_rows_that_reverse_a_train(self):
        kinds = [self.compare(*row) for row in carrying_rows(6200, 100, turned=True)]
        for several in (True, False):
            self.assertGreater(kinds.count((True, True, several)), 20)
        self.assertEqual({is_turned for _, is_turned, _ in kinds}, {True})

    def test_rows_of_many_marches(self):
        rows = carrying_rows(6300, 30, crossings=12, longest=9, many=24)
        rows += carrying_rows(6400, 15, turned=True, longest=9, many=24)
        for roads, marches in rows:
            self.compare(roads, marches)
        self.assertGreater(max(len(marches) for _, marches in rows), 16)

    def test_all_trees_of_five_crossings(self):
        for turn, pairs in enumerate(labelled_trees(5)):
            choices = Choices(6500 + turn)
            roads = varied_roads(pairs, turn)
            self.compare(roads, choices.marches(roads, 1 + turn % 3, 3))

    def test_fractions_too(self):
        # The train has exactly the positions that two rounds leave in place, also between whole places.
        for roads, marches in carrying_rows(6600, 20) + carrying_rows(6700, 10, turned=True):
            row = row_of(roads, marches)
            found = train(row)
            net = Net(len(roads) + 1, roads, 3)
            ahead = net.counts_to(net.of(*told(found.one)))
            behind = net.counts_to(net.of(*told(found.other)))
            size = ahead[net.of(*told(found.other))]
            for name, spot in net.keys_in_order():
                place = place_of(name)
                stays = after(row, place, rounds=2) == place
                self.assertIs(stays, ahead[spot] + behind[spot] == size)
                if stays:
                    there = told(after(row, place))
                    expected = behind[spot] if found.is_turned else ahead[spot]
                    self.assertEqual(ahead[net.of(*there)], expected)

    def test_ends_are_keys_of_whole_places(self):
        for roads, marches in any_rows(6800, 60) + carrying_rows(6900, 60):
            row = row_of(roads, marches)
            found = train(row)
            for one, other in [(found.one, found.other), *found.stands]:
                for place in (one, other):
                    self.assertEqual(place.parts, 1)
                    self.assertEqual(told(key(row.tree, place)), told(place))
            self.assertLessEqual(told(found.one), told(found.other))
            self.assertEqual(len(found.stands), len(marches) + 1)
            self.assertEqual(told(found.one)[1], Fraction(found.one.number))


if __name__ == "__main__":
    unittest.main()
