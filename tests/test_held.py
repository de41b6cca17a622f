"""[9]: whether two rows do the same, and the first place where they do not."""

import unittest

from asking import Asking, Everything, place_of, row_of, told, tree_of
from oracle import Choices, Net, first_apart
from wide import EXACTLY_400, EXACTLY_401, EXACTLY_630, GATHER, LONG_STAR, SCALE, STAR, tip_marches

from onetrain.alike import Alike, Parted, held
from onetrain.errors import OtherTree, Wide
from onetrain.marches import after
from onetrain.places import Place, is_before, key

FORK = [(0, 1, 3), (0, 2, 2), (3, 0, 4)]
LINE = [(0, 1, 10)]
LONG = 10 ** 9


def parts_at(found):
    """The three places of a Parted as pairs (road, distance)."""
    return (told(found.place), told(found.ours), told(found.theirs))


class Classes(unittest.TestCase):
    def setUp(self):
        self.places = [Place(0, 1, 1), Place(1, 2, 1), Place(2, 3, 1)]

    def test_fields(self):
        place, ours, theirs = self.places
        for found in (Parted(place, ours, theirs), Parted(theirs=theirs, ours=ours, place=place)):
            self.assertIs(found.place, place)
            self.assertIs(found.ours, ours)
            self.assertIs(found.theirs, theirs)
        self.assertEqual(vars(Alike()), {})

    def test_equal_by_class_and_fields(self):
        self.assertIs(Alike() == Alike(), True)
        self.assertIs(Alike() != Alike(), False)
        other = Parted(Place(0, 2, 2), Place(1, 2, 1), Place(2, 3, 1))
        self.assertIs(Parted(*self.places) == other, True)
        self.assertIs(Parted(*self.places) != other, False)

    def test_not_equal_otherwise(self):
        place, ours, theirs = self.places
        wrong = Place(1, 1, 1)
        for other in [Parted(wrong, ours, theirs), Parted(place, wrong, theirs), Parted(place, ours, wrong),
                      Parted(place, theirs, ours), Alike()]:
            self.assertIs(Parted(*self.places) == other, False)
            self.assertIs(Parted(*self.places) != other, True)
            self.assertIs(other == Parted(*self.places), False)

    def test_never_equal_to_other_values(self):
        for other in [tuple(self.places), self.places, self.places[0], None, True, "alike", (), Everything()]:
            self.assertIs(Alike() == other, False)
            self.assertIs(Parted(*self.places) == other, False)


class Held(Asking, unittest.TestCase):
    def alike(self, roads, ours, theirs):
        for one, other in ((ours, theirs), (theirs, ours)):
            found = held(row_of(roads, one), row_of(roads, other))
            self.assertIs(type(found), Alike)
            self.assertEqual(found, Alike())

    def parted(self, roads, ours, theirs, place, our, their):
        found = held(row_of(roads, ours), row_of(roads, theirs))
        self.assertIs(type(found), Parted)
        self.assertEqual(parts_at(found), (place, our, their))
        found = held(row_of(roads, theirs), row_of(roads, ours))
        self.assertEqual(parts_at(found), (place, their, our))

    def test_alike_although_the_marches_differ(self):
        self.alike(LINE, [(0, 0, 1), (0, 0, 1)], [(0, 0, 2)])
        self.alike(LINE, [(0, 3, 10)], [(0, 3, LONG)])
        self.alike(LINE, [(0, 10, 10), (0, 0, 10)], [(0, 0, 10)])
        self.alike(FORK, [(0, 3, 1), (0, 3, 2)], [(0, 3, 2), (0, 3, 1)])
        self.alike(FORK, [(0, 0, 9), (1, 2, 1)], [(0, 0, 5), (2, 4, 1), (1, 0, 7), (1, 2, 1)])

    def test_goals_that_are_one_crossing(self):
        for one in [(0, 0), (1, 0), (2, 4)]:
            for other in [(0, 0), (1, 0), (2, 4)]:
                self.alike(FORK, [(*one, 2)], [(*other, 2)])

    def test_a_row_and_itself(self):
        row = row_of(FORK, [(0, 3, 2), (2, 1, 1)])
        self.assertEqual(held(row, row), Alike())

    def test_rows_without_marches(self):
        self.alike(FORK, [], [])
        self.parted(FORK, [], [(0, 3, 1)], (0, 0), (0, 0), (0, 1))
        self.parted(LINE, [], [(0, 0, 1)], (0, 1), (0, 1), (0, 0))

    def test_equal_trees_need_not_be_one(self):
        one, other = row_of(FORK, [(0, 3, 2)]), row_of(FORK, [(0, 3, 1), (0, 3, 1)])
        self.assertEqual(held(one, other), Alike())

    def test_parted_within_a_stretch_of_both(self):
        # Both move road 0 towards crossing 0 and over it, in one piece, onto ways that part there.
        roads = [(3, 0, 9), (0, 1, 9), (0, 2, 9)]
        self.parted(roads, [(1, 9, 3)], [(2, 9, 3)], (0, 7), (1, 1), (2, 1))
        self.parted(roads, [(1, 9, 9)], [(2, 9, 9)], (0, 1), (1, 1), (2, 1))
        self.parted(roads, [(1, 9, 10)], [(2, 9, 10)], (0, 0), (1, 1), (2, 1))

    def test_parted_where_one_stands_and_the_other_moves(self):
        self.parted(LINE, [(0, 0, 4)], [(0, 0, 5)], (0, 5), (0, 1), (0, 0))
        self.parted(LINE, [(0, 0, 1)], [(0, 0, 2)], (0, 2), (0, 1), (0, 0))

    def test_one_whole_place_alone(self):
        self.parted_alone(LINE, [(0, 0, 9)], [(0, 0, 10)], (0, 10), (0, 1), (0, 0))
        star = [(0, 1, 3), (0, 2, 3), (0, 3, 3)]
        self.parted_alone(star, [(2, 3, 1), (0, 0, 2)], [(2, 3, 2), (0, 0, 2)], (2, 1), (0, 0), (2, 1))
        star = [(0, 1, 4), (0, 2, 4), (0, 3, 4)]
        self.parted_alone(star, [(0, 4, 2), (0, 0, 2)], [(1, 4, 1), (0, 4, 3), (0, 0, 2)], (2, 1), (0, 0), (0, 1))

    def parted_alone(self, roads, ours, theirs, place, our, their):
        net = Net(len(roads) + 1, roads, 1)
        one, other = net.images(ours), net.images(theirs)
        self.assertEqual([name for name, spot in net.keys_in_order() if one[spot] != other[spot]], [place])
        self.parted(roads, ours, theirs, place, our, their)

    def test_parted_on_the_second_road_alone(self):
        roads = [(0, 1, 4), (1, 2, 4)]
        self.parted(roads, [(0, 0, 6)], [(0, 0, 7)], (1, 3), (0, 1), (0, 0))
        self.parted(roads, [(0, 0, 4)], [(0, 0, 5)], (1, 1), (0, 1), (0, 0))

    def test_the_lowest_road_comes_first(self):
        roads = [(2, 3, 2), (1, 2, 5), (0, 1, 5)]
        self.parted(roads, [(0, 2, 1)], [(0, 2, 2)], (0, 0), (0, 1), (0, 2))
        self.parted(roads, [(2, 0, 1)], [(2, 0, 2)], (0, 0), (1, 4), (1, 3))
        self.parted(roads, [(1, 5, 1)], [(1, 5, 2)], (0, 2), (0, 1), (0, 0))

    def test_the_parting_place_is_a_key(self):
        # They part at crossing 1 first, which road 0 meets at its far end.
        roads = [(0, 1, 4), (2, 1, 4), (1, 3, 4)]
        self.parted(roads, [(0, 0, 3)], [(0, 0, 4)], (0, 4), (0, 1), (0, 0))

    def test_long_roads(self):
        roads = [(0, 1, LONG), (1, 2, LONG)]
        self.parted(roads, [(0, 0, LONG - 1)], [(0, 0, LONG)], (0, LONG), (0, 1), (0, 0))
        self.parted(roads, [(0, 0, LONG), (0, 0, LONG - 1)], [(0, 0, LONG), (0, 0, LONG - 2)],
                    (1, LONG - 1), (0, 0), (0, 1))
        self.alike(roads, [(0, 0, LONG), (0, 0, LONG)], [(0, 0, LONG), (0, 0, LONG - 1), (0, 0, 1)])

    def test_by_keyword(self):
        one, other = row_of(LINE, [(0, 0, 1)]), row_of(LINE, [(0, 0, 2)])
        self.assertEqual(parts_at(held(other=other, row=one)), ((0, 2), (0, 1), (0, 0)))

    def test_each_call_returns_an_equal_result(self):
        one, other = row_of(FORK, [(2, 4, 1)]), row_of(FORK, [(1, 0, 1), (0, 0, 1)])
        self.assertEqual(held(one, other), held(row_of(FORK, [(0, 0, 1)]), other))
        self.assertEqual(one.marches[0].goal, Place(2, 4, 1))


class Errors(Asking, unittest.TestCase):
    def setUp(self):
        self.wide = row_of(STAR, tip_marches(EXACTLY_401))
        self.fine = row_of(STAR, tip_marches(EXACTLY_400))

    def test_other_trees(self):
        others = [
            [(0, 1, 4), (0, 2, 2), (3, 0, 4)], [(0, 1, 3), (2, 0, 2), (3, 0, 4)], [(0, 1, 3), (0, 2, 2)],
            [(0, 2, 2), (0, 1, 3), (3, 0, 4)], LINE,
        ]
        for roads in others:
            self.refuses(OtherTree, {}, held, row_of(FORK, []), row_of(roads, []))
            self.refuses(OtherTree, {}, held, row_of(roads, [(0, 0, 1)]), row_of(FORK, [(0, 0, 1)]))

    def test_other_trees_come_before_rows_that_are_too_wide(self):
        long = row_of(LONG_STAR, tip_marches(EXACTLY_401, SCALE))
        for one, other in [(self.wide, long), (long, self.wide), (self.wide, row_of(FORK, [])), (row_of(LINE, []), long)]:
            self.refuses(OtherTree, {}, held, one, other)

    def test_rows_that_are_too_wide(self):
        for one, other in [(self.wide, self.fine), (self.fine, self.wide), (self.wide, self.wide)]:
            self.refuses(Wide, {"count": 401}, held, one, other)

    def test_too_wide_although_they_part_at_once(self):
        for pairs in (EXACTLY_401, EXACTLY_630):
            wide = row_of(STAR, tip_marches(pairs))
            self.refuses(Wide, {"count": 401}, held, row_of(STAR, [(0, 0, 100)]), wide)
            self.refuses(Wide, {"count": 401}, held, wide, row_of(STAR, []))

    def test_a_prefix_that_is_too_wide(self):
        gathered = row_of(STAR, tip_marches(GATHER))
        wide = row_of(STAR, tip_marches(EXACTLY_630 + GATHER))
        self.refuses(Wide, {"count": 401}, held, gathered, wide)
        self.refuses(Wide, {"count": 401}, held, wide, gathered)
        self.assertEqual(held(gathered, row_of(STAR, tip_marches(EXACTLY_400 + GATHER))), Alike())

    def test_400_stretches(self):
        self.assertEqual(held(self.fine, row_of(STAR, tip_marches(EXACTLY_400))), Alike())
        net = Net(9, STAR, 1)
        images = net.images(tip_marches(EXACTLY_400))
        compared = 0
        for at in range(20):
            pairs = list(EXACTLY_400)
            pairs[at] = (pairs[at][0], pairs[at][1] + 1)
            try:
                found = held(self.fine, row_of(STAR, tip_marches(pairs)))
            except Wide:
                continue
            expected = first_apart(net, images, net.images(tip_marches(pairs)))
            self.assertEqual(found, Parted(*[place_of(name) for name in expected]))
            compared += 1
        self.assertGreater(compared, 5)


class AgainstWalking(unittest.TestCase):
    """Compared with a walk of every whole place, in the order of keys."""

    def variant(self, choices, roads, marches):
        """A row that does nearly the same."""
        marches = list(marches)
        at = choices.below(len(marches))
        road, number, steps = marches[at]
        kind = choices.below(4)
        if kind == 0:
            marches[at:at + 1] = [(road, number, 1)] * min(steps, 3) + [(road, number, steps - 3)] * (steps > 3)
        elif kind == 1:
            marches[at] = (road, number, steps + 1)
        elif kind == 2:
            marches[at] = (road, min(number + 1, roads[road][2]), steps)
        else:
            marches[at:at] = [(road, number, steps)]
        return marches

    def test_many_rows(self):
        answers = []
        for seed in range(500):
            choices = Choices(4000 + seed)
            roads = choices.roads(2 + choices.below(9), 2 + choices.below(8))
            marches = choices.marches(roads, 1 + choices.below(8), 2 + choices.below(12))
            others = self.variant(choices, roads, marches)
            net = Net(len(roads) + 1, roads, 1)
            expected = first_apart(net, net.images(marches), net.images(others))
            found = held(row_of(roads, marches), row_of(roads, others))
            answers.append(expected is None)
            if expected is None:
                self.assertEqual(found, Alike())
            else:
                self.assertEqual(found, Parted(*[place_of(name) for name in expected]))
                self.check_parting(row_of(roads, marches), row_of(roads, others), found)
        self.assertGreater(answers.count(True), 50)
        self.assertGreater(answers.count(False), 50)

    def check_parting(self, row, other, found):
        self.assertEqual(found.place.parts, 1)
        self.assertEqual(key(row.tree, found.place), found.place)
        self.assertEqual(after(row, found.place), found.ours)
        self.assertEqual(after(other, found.place), found.theirs)
        for road, one in enumerate(row.tree.roads):
            for number in range(one.length + 1):
                place = key(row.tree, Place(road, number, 1))
                if is_before(place, found.place):
                    self.assertEqual(after(row, place), after(other, place))

    def test_alike_in_fractions_too(self):
        tree = tree_of(FORK)
        one, other = row_of(FORK, [(0, 3, 1), (0, 3, 2)]), row_of(FORK, [(0, 3, 3)])
        self.assertEqual(held(one, other), Alike())
        for road, length in enumerate((3, 2, 4)):
            for number in range(6 * length + 1):
                place = key(tree, Place(road, number, 6))
                self.assertEqual(after(one, place), after(other, place))


if __name__ == "__main__":
    unittest.main()
