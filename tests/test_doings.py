"""[7]: everything that a row does, as longest stretches."""

import unittest
from itertools import pairwise

from asking import Asking, Everything, plain, row_of, told, tree_of
from oracle import Choices, Net, labelled_trees, longest_stretches, varied_roads
from wide import EXACTLY_400, EXACTLY_401, EXACTLY_630, GATHER, LONG_STAR, SCALE, STAR, scaled, tip_marches

from onetrain.doings import Stretch, doing
from onetrain.errors import Wide
from onetrain.marches import after
from onetrain.places import Place, distance, key

FORK = [(0, 1, 3), (0, 2, 2), (3, 0, 4)]
LINE = [(0, 1, 10)]
LONG = 10 ** 9


def counted(roads, marches):
    """What `doing` must return, by counting."""
    net = Net(len(roads) + 1, roads, 1)
    return longest_stretches(net, net.images(marches))


class Stretches(unittest.TestCase):
    def setUp(self):
        self.one = Stretch(1, 2, 5, Place(0, 1, 1), Place(2, 1, 1))

    def test_fields(self):
        first, last = Place(0, 1, 1), Place(0, 4, 1)
        for stretch in (Stretch(1, 2, 5, first, last), Stretch(last=last, first=first, greatest=5, least=2, road=1)):
            self.assertEqual((stretch.road, stretch.least, stretch.greatest), (1, 2, 5))
            self.assertIs(stretch.first, first)
            self.assertIs(stretch.last, last)

    def test_creating_a_stretch_raises_no_error(self):
        stretch = Stretch(-1, 5, -10 ** 30, Place(-7, 1, 2), Place(0, -1, 1))
        self.assertEqual((stretch.road, stretch.least, stretch.greatest), (-1, 5, -10 ** 30))

    def test_equal_if_all_fields_are_equal(self):
        self.assertIs(self.one == Stretch(1, 2, 5, Place(0, 2, 2), Place(2, 1, 1)), True)
        self.assertIs(self.one != Stretch(1, 2, 5, Place(0, 2, 2), Place(2, 1, 1)), False)

    def test_not_equal_otherwise(self):
        start, end = Place(0, 1, 1), Place(2, 1, 1)
        for other in [
            Stretch(0, 2, 5, start, end), Stretch(1, 1, 5, start, end), Stretch(1, 2, 6, start, end),
            Stretch(1, 2, 5, Place(1, 1, 1), end), Stretch(1, 2, 5, start, Place(2, 1, 2)), Stretch(1, 2, 5, end, start),
        ]:
            self.assertIs(self.one == other, False)
            self.assertIs(self.one != other, True)

    def test_never_equal_to_other_values(self):
        start, end = Place(0, 1, 1), Place(2, 1, 1)
        for other in [(1, 2, 5, start, end), [1, 2, 5, start, end], start, None, 1, "1", Everything()]:
            self.assertIs(self.one == other, False)


def gathered(number, place):
    """What the star's rows do when everyone ends at one place."""
    return [(road, 0, number, place, place) for road in range(8)]


class Doings(Asking, unittest.TestCase):
    def does(self, roads, marches, expected):
        found = doing(row_of(roads, marches))
        self.assertIs(type(found), list)
        self.assertEqual(plain(found), expected)
        if sum(length for _, _, length in roads) < LONG:
            self.assertEqual(counted(roads, marches), expected)

    def test_a_row_without_marches(self):
        self.does(FORK, [], [
            (0, 0, 3, (0, 0), (0, 3)), (1, 0, 2, (0, 0), (1, 2)), (2, 0, 4, (2, 0), (0, 0)),
        ])

    def test_one_march(self):
        self.does(FORK, [(0, 3, 2)], [
            (0, 0, 1, (0, 2), (0, 3)), (0, 1, 3, (0, 3), (0, 3)),
            (1, 0, 2, (0, 2), (0, 0)),
            (2, 0, 4, (2, 2), (0, 2)),
        ])

    def test_all_to_one_position(self):
        for steps in (9, 10, LONG):
            self.does(LINE, [(0, 1, steps)], [(0, 0, 10, (0, 1), (0, 1))])
        self.does(FORK, [(2, 4, 4)], [(road, 0, length, (0, 0), (0, 0)) for road, (_, _, length) in enumerate(FORK)])

    def test_a_cut_where_moving_places_meet_a_common_image(self):
        self.does(LINE, [(0, 0, 4)], [(0, 0, 4, (0, 0), (0, 0)), (0, 4, 10, (0, 0), (0, 6))])
        self.does(LINE, [(0, 10, 4)], [(0, 0, 6, (0, 4), (0, 10)), (0, 6, 10, (0, 10), (0, 10))])

    def test_two_cuts_around_a_common_image(self):
        self.does(LINE, [(0, 5, 2)], [
            (0, 0, 3, (0, 2), (0, 5)), (0, 3, 7, (0, 5), (0, 5)), (0, 7, 10, (0, 5), (0, 8)),
        ])

    def test_a_cut_where_the_image_turns_back(self):
        # The first march draws the start of road 0 into road 2, so its image leads over the crossing.
        # The second draws the crossing into road 1, from both sides: there the image turns back.
        star = [(0, 1, 10), (0, 2, 10), (0, 3, 10)]
        self.does(star, [(2, 10, 3)], [
            (0, 0, 10, (2, 3), (0, 7)),
            (1, 0, 10, (2, 3), (1, 7)),
            (2, 0, 7, (2, 3), (2, 10)), (2, 7, 10, (2, 10), (2, 10)),
        ])
        self.does(star, [(2, 10, 3), (1, 10, 1)], [
            (0, 0, 3, (2, 2), (1, 1)), (0, 3, 10, (1, 1), (0, 6)),
            (1, 0, 10, (2, 2), (1, 8)),
            (2, 0, 7, (2, 2), (2, 9)), (2, 7, 10, (2, 9), (2, 9)),
        ])

    def test_cuts_that_a_later_march_makes_needless(self):
        self.does(LINE, [(0, 5, 2), (0, 5, 3)], [(0, 0, 10, (0, 5), (0, 5))])
        self.does(LINE, [(0, 5, 2), (0, 0, 5)], [(0, 0, 7, (0, 0), (0, 0)), (0, 7, 10, (0, 0), (0, 3))])
        star = [(0, 1, 10), (0, 2, 10), (0, 3, 10)]
        self.does(star, [(2, 10, 3), (1, 10, 1), (1, 0, 2)], [
            (0, 0, 6, (0, 0), (0, 0)), (0, 6, 10, (0, 0), (0, 4)),
            (1, 0, 4, (0, 0), (0, 0)), (1, 4, 10, (0, 0), (1, 6)),
            (2, 0, 7, (0, 0), (2, 7)), (2, 7, 10, (2, 7), (2, 7)),
        ])

    def test_a_stretch_may_lead_over_several_roads(self):
        self.does([(0, 1, 2), (1, 2, 1), (2, 3, 2)], [(0, 0, 3)], [
            (0, 0, 2, (0, 0), (0, 0)), (1, 0, 1, (0, 0), (0, 0)), (2, 0, 2, (0, 0), (0, 2)),
        ])
        self.does([(0, 1, 9), (1, 2, 1), (2, 3, 1)], [(2, 1, 2)], [
            (0, 0, 9, (0, 2), (2, 1)), (1, 0, 1, (2, 1), (2, 1)), (2, 0, 1, (2, 1), (2, 1)),
        ])

    def test_ends_in_crossings_are_keys(self):
        # Crossing 1 ends roads 0 and 1 and is kept as the place of road 0; so is crossing 0.
        roads = [(1, 0, 2), (1, 2, 3)]
        self.does(roads, [(1, 3, 2)], [
            (0, 0, 2, (1, 2), (0, 0)), (1, 0, 1, (1, 2), (1, 3)), (1, 1, 3, (1, 3), (1, 3)),
        ])
        self.does(roads, [(1, 0, 1)], [
            (0, 0, 1, (0, 0), (0, 0)), (0, 1, 2, (0, 0), (0, 1)),
            (1, 0, 1, (0, 0), (0, 0)), (1, 1, 3, (0, 0), (1, 2)),
        ])

    def test_long_roads(self):
        self.does([(0, 1, LONG)], [(0, 1, LONG)], [(0, 0, LONG, (0, 1), (0, 1))])
        self.does([(0, 1, LONG)], [(0, LONG - 1, LONG - 2), (0, 0, 1)], [
            (0, 0, 1, (0, LONG - 3), (0, LONG - 2)), (0, 1, LONG, (0, LONG - 2), (0, LONG - 2)),
        ])
        roads = [(0, 1, LONG), (0, 2, LONG), (3, 0, LONG)]
        self.does(roads, [(2, 0, LONG - 1), (1, LONG, 1)], [
            (0, 0, LONG - 1, (2, 2), (1, 1)), (0, LONG - 1, LONG, (1, 1), (0, 0)),
            (1, 0, LONG, (2, 2), (1, 2)),
            (2, 0, LONG - 1, (2, 1), (2, 1)), (2, LONG - 1, LONG, (2, 1), (2, 2)),
        ])

    def test_by_keyword(self):
        self.assertEqual(plain(doing(row=row_of(LINE, []))), [(0, 0, 10, (0, 0), (0, 10))])


class AgainstWalking(unittest.TestCase):
    """Compared with a walk of every whole place."""

    def compare(self, roads, marches):
        row = row_of(roads, marches)
        found = doing(row)
        self.assertEqual(plain(found), counted(roads, marches))
        self.none_could_be_one(row, found)

    def none_could_be_one(self, row, found):
        for one, other in pairwise(found):
            if one.road == other.road:
                self.assertEqual(one.greatest, other.least)
                kinds = {stretch.first == stretch.last for stretch in (one, other)}
                if kinds == {False}:
                    self.assertLess(distance(row.tree, one.first, other.last)[0], other.greatest - one.least)
                else:
                    self.assertEqual(kinds, {True, False})

    def test_all_trees_of_five_crossings(self):
        for turn, pairs in enumerate(labelled_trees(5)):
            choices = Choices(turn)
            roads = [(a, b, 3 * length) for a, b, length in varied_roads(pairs, turn)]
            for many in (1, 2, 4):
                self.compare(roads, choices.marches(roads, many, 5))

    def test_larger_trees_and_rows(self):
        for seed in range(250):
            choices = Choices(1000 + seed)
            roads = choices.roads(2 + choices.below(23), 2 + choices.below(12))
            self.compare(roads, choices.marches(roads, choices.below(25), 2 + choices.below(15)))

    def test_each_stretch_by_the_way_of_its_people(self):
        for seed in range(40):
            choices = Choices(2000 + seed)
            roads = choices.roads(6, 6)
            row = row_of(roads, choices.marches(roads, 3, 4))
            for stretch in doing(row):
                for twice in range(2 * stretch.least, 2 * stretch.greatest + 1):
                    there = after(row, Place(stretch.road, twice, 2))
                    if stretch.first == stretch.last:
                        self.assertEqual(there, stretch.first)
                    else:
                        ahead = distance(row.tree, stretch.first, there)
                        behind = distance(row.tree, there, stretch.last)
                        self.assertEqual(2 * ahead[0], (twice - 2 * stretch.least) * ahead[1])
                        self.assertEqual(2 * behind[0], (2 * stretch.greatest - twice) * behind[1])
                for end in (stretch.first, stretch.last):
                    self.assertEqual(told(key(row.tree, end)), told(end))


class Width(Asking, unittest.TestCase):
    def test_exactly_400(self):
        expected = counted(STAR, tip_marches(EXACTLY_400))
        self.assertEqual(len(expected), 400)
        self.assertEqual(plain(doing(row_of(STAR, tip_marches(EXACTLY_400)))), expected)
        found = doing(row_of(LONG_STAR, tip_marches(EXACTLY_400, SCALE)))
        self.assertEqual(plain(found), scaled(expected))

    def test_more_marches_behind_a_prefix_of_exactly_400(self):
        for arm in range(8):
            marches = tip_marches(EXACTLY_400 + [(arm, 3)] + GATHER)
            self.assertEqual(counted(STAR, marches[:-2]), plain(doing(row_of(STAR, marches[:-2]))))
            self.assertEqual(plain(doing(row_of(STAR, marches))), gathered(100, (0, 100)))

    def test_exactly_401(self):
        self.assertEqual(len(counted(STAR, tip_marches(EXACTLY_401))), 401)
        self.refuses(Wide, {"count": 401}, doing, row_of(STAR, tip_marches(EXACTLY_401)))
        self.refuses(Wide, {"count": 401}, doing, row_of(LONG_STAR, tip_marches(EXACTLY_401, SCALE)))
        before = tip_marches(EXACTLY_401[:-1])
        self.assertEqual(plain(doing(row_of(STAR, before))), counted(STAR, before))

    def test_many_more_are_told_as_401(self):
        self.assertEqual(len(counted(STAR, tip_marches(EXACTLY_630))), 630)
        self.assertLess(len(counted(STAR, tip_marches(EXACTLY_630[:-1]))), 400)
        self.refuses(Wide, {"count": 401}, doing, row_of(STAR, tip_marches(EXACTLY_630)))

    def test_a_prefix_that_is_too_wide(self):
        for pairs in (EXACTLY_401, EXACTLY_630):
            marches = tip_marches(pairs + GATHER)
            self.assertEqual(counted(STAR, marches), gathered(100, (0, 100)))
            self.refuses(Wide, {"count": 401}, doing, row_of(STAR, marches))
            self.refuses(Wide, {"count": 401}, doing, row_of(STAR, marches + tip_marches([(1, 5)])))

    def test_a_march_in_front_that_gathers_everyone(self):
        found = doing(row_of(STAR, tip_marches(GATHER + EXACTLY_630)))
        self.assertEqual([stretch.first for stretch in found], [stretch.last for stretch in found])
        self.assertEqual(len(found), 8)


class Conventions(unittest.TestCase):
    def test_the_returned_list_belongs_to_the_caller(self):
        row = row_of(FORK, [(0, 3, 2), (2, 1, 1)])
        expected = counted(FORK, [(0, 3, 2), (2, 1, 1)])
        found = doing(row)
        found[0].least = 7
        found[1] = None
        found.reverse()
        self.assertEqual(plain(doing(row)), expected)
        found.clear()
        self.assertEqual(plain(doing(row)), expected)

    def test_each_call_returns_an_equal_list(self):
        for goals in [(0, 0), (1, 0), (2, 4)]:
            self.assertEqual(doing(row_of(FORK, [(*goals, 2)])), doing(row_of(FORK, [(0, 0, 2)])))

    def test_the_row_does_not_change(self):
        row = row_of(FORK, [(2, 4, 1), (1, 0, 2)])
        doing(row)
        self.assertEqual([(told(march.goal), march.steps) for march in row.marches], [((2, 4), 1), ((1, 0), 2)])
        self.assertEqual(row.tree, tree_of(FORK))


if __name__ == "__main__":
    unittest.main()
