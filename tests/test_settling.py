"""[14]: how soon everyone is in the train, and how soon everyone can be brought together."""

import unittest
from itertools import product

from asking import Asking, march_of, row_of, told, tree_of
from oracle import Choices, Net
from rounds import any_rows, carrying_rows, fate_of, fewest_of, settling_of
from wide import ONE_FOR_EACH_STEP, SMALL_STAR

from onetrain.doings import doing
from onetrain.errors import BadCount, NoRoad, NotWhole, OffRoad, Wide
from onetrain.fates import fate
from onetrain.marches import March
from onetrain.places import Place
from onetrain.settling import fewest, settled

FORK = [(0, 1, 3), (0, 2, 2), (3, 0, 4)]
BEAM = [(0, 1, 10), (0, 2, 10), (0, 3, 10)]
TURNING = [(1, 10, 5), (2, 10, 6), (0, 10, 5)]
LINE = [(0, 1, 10)]
LONG = 10 ** 9


class Settled(Asking, unittest.TestCase):
    def test_by_hand(self):
        for roads, marches, expected in [
            ([(0, 1, 3)], [(0, 0, 1)], 3),
            (LINE, [(0, 4, 1)], 6),
            (LINE, [(0, 4, 10)], 1),
            (LINE, [(0, 0, 4), (0, 10, 4)], 1),
            (FORK, [(0, 3, 1)], 7),
            (FORK, [(0, 3, 7)], 1),
            (FORK, [(0, 3, 6)], 2),
            ([(0, 1, 1)], [(0, 1, LONG)], 1),
        ]:
            found = settled(row_of(roads, marches))
            self.assertIs(type(found), int)
            self.assertEqual(found, expected)

    def test_a_train_that_is_reversed(self):
        net = Net(4, BEAM, 1)
        self.assertEqual(settled(row_of(BEAM, TURNING)), settling_of(net.images(TURNING)))

    def test_exactly_500_steps(self):
        for roads, expected in [([(0, 1, 500)], 500), ([(0, 1, 250), (2, 1, 250)], 500), ([(0, 1, 1), (1, 2, 499)], 500)]:
            self.assertEqual(settled(row_of(roads, [(0, 0, 1)])), expected)
        roads = [(0, at, 21 + (at < 18)) for at in range(1, 24)]
        self.assertEqual(sum(length for _, _, length in roads), 500)
        marches = [(at, roads[at][2], 1 + at % 3) for at in range(23)]
        self.assertEqual(settled(row_of(roads, marches)), settling_of(Net(24, roads, 1).images(marches)))

    def test_more_steps(self):
        for roads in ([(0, 1, 501)], [(0, 1, 250), (2, 1, 251)], [(0, at, 22) for at in range(1, 24)],
                      [(0, 1, LONG)], [(0, at, LONG) for at in range(1, 24)]):
            size = sum(length for _, _, length in roads)
            self.refuses(BadCount, {"what": "places", "count": size}, settled, row_of(roads, [(0, 0, 1)]))

    def test_a_row_without_marches_comes_first(self):
        for roads in (FORK, [(0, 1, 500)], [(0, 1, 501)], [(0, 1, LONG)]):
            self.refuses(BadCount, {"what": "marches", "count": 0}, settled, row_of(roads, []))

    def test_24_marches(self):
        marches = [(0, 0, 2), (0, 10, 1)] * 12
        self.assertEqual(settled(row_of(LINE, marches)), settling_of(Net(2, LINE, 1).images(marches)))

    def test_rows_that_are_too_wide(self):
        marches = [(arm, 50, steps) for arm, steps in ONE_FOR_EACH_STEP]
        row = row_of(SMALL_STAR, marches)
        self.refuses(Wide, {"count": 401}, doing, row)
        self.assertEqual(settled(row), settling_of(Net(11, SMALL_STAR, 1).images(marches)))

    def test_by_keyword(self):
        self.assertEqual(settled(row=row_of(LINE, [(0, 4, 1)])), 6)

    def test_the_row_does_not_change(self):
        row = row_of(FORK, [(2, 4, 1), (1, 0, 2)])
        self.assertEqual(settled(row), settled(row))
        self.assertEqual([(told(march.goal), march.steps) for march in row.marches], [((2, 4), 1), ((1, 0), 2)])
        self.assertEqual(row.tree, tree_of(FORK))


class SettledAgainstWalking(unittest.TestCase):
    """Compared with the largest tail of all positions, found by walking."""

    def test_many_rows(self):
        rows = any_rows(9000, 200) + carrying_rows(9100, 100) + carrying_rows(9200, 40, turned=True)
        for roads, marches in rows:
            images = Net(len(roads) + 1, roads, 1).images(marches)
            self.assertEqual(settled(row_of(roads, marches)), settling_of(images))

    def test_the_largest_tail_of_fractions_too(self):
        rows = any_rows(9300, 25, crossings=4, longest=5) + carrying_rows(9400, 20) + carrying_rows(9500, 10, turned=True)
        for at, (roads, marches) in enumerate(rows):
            images = Net(len(roads) + 1, roads, 1 + at % 3).images(marches)
            largest = max(fate_of(images, spot)[0] for spot in images)
            self.assertEqual(settled(row_of(roads, marches)), largest)

    def test_the_largest_tail_of_fate(self):
        for roads, marches in any_rows(9600, 30) + carrying_rows(9700, 20):
            row = row_of(roads, marches)
            places = [Place(road, number, 1) for road, one in enumerate(roads) for number in range(one[2] + 1)]
            self.assertEqual(settled(row), max(fate(row, place)[0] for place in places))


class Fewest(Asking, unittest.TestCase):
    def gathers(self, roads, marches, many=None):
        """The call returns a shortest sequence that gathers everyone, and `many` is its length."""
        found = fewest(tree_of(roads), [march_of(*march) for march in marches])
        self.assertIs(type(found), list)
        self.assertTrue(all(type(at) is int and 0 <= at < len(marches) for at in found))
        net = Net(len(roads) + 1, roads, 1)
        images = net.images([marches[at] for at in found])
        self.assertEqual(len(set(images.values())), 1)
        self.assertEqual(len(found), fewest_of(net, marches))
        if many is not None:
            self.assertEqual(len(found), many)
        return found

    def test_one_march(self):
        self.assertEqual(self.gathers(LINE, [(0, 0, 1)]), [0] * 10)
        self.assertEqual(self.gathers(LINE, [(0, 0, 10)]), [0])
        self.assertEqual(self.gathers(LINE, [(0, 4, 1)]), [0] * 6)
        self.assertEqual(self.gathers(FORK, [(0, 0, 3)]), [0] * 2)

    def test_two_marches(self):
        self.assertEqual(self.gathers([(0, 1, 3)], [(0, 0, 2), (0, 3, 1)]), [0, 0])
        self.assertEqual(self.gathers(LINE, [(0, 0, 1), (0, 10, 5)]), [1, 1])
        self.gathers(LINE, [(0, 0, 6), (0, 10, 5)], 2)

    def test_different_marches_are_shorter_together(self):
        # Neither march alone gathers everyone in fewer than five.
        roads = [(0, 1, 5), (0, 2, 5), (0, 3, 5)]
        marches = [(0, 5, 2), (1, 5, 2), (0, 0, 1)]
        self.gathers(roads, marches, 5)
        self.assertEqual({len(self.gathers(roads, [march])) for march in marches}, {5})
        many = len(self.gathers(roads, [(0, 2, 2), (0, 0, 3)]))
        self.assertLess(many, len(self.gathers(roads, [(0, 2, 2)])))

    def test_six_marches(self):
        self.gathers(FORK, [(0, 3, 2), (1, 2, 2), (2, 0, 2), (0, 0, 1), (2, 2, 3), (0, 1, 3)])
        self.gathers(LINE, [(0, at, 1 + at % 3) for at in range(6)])

    def test_equal_marches(self):
        self.gathers(LINE, [(0, 0, 3)] * 6, 4)
        self.gathers(FORK, [(0, 0, 1), (1, 0, 1), (2, 4, 1)], 4)
        self.gathers(FORK, [(0, 0, 1), (0, 0, 2), (2, 4, 2)], 2)

    def test_exactly_30_steps(self):
        self.gathers([(0, 1, 30)], [(0, 0, 1)], 30)
        self.gathers([(0, 1, 30)], [(0, 0, 1), (0, 30, 1), (0, 15, 1)], 15)
        self.gathers([(0, 1, 14), (1, 2, 16)], [(0, 0, LONG)], 1)
        roads = [(0, at, 2 if at < 8 else 1) for at in range(1, 24)]
        self.assertEqual(sum(length for _, _, length in roads), 30)
        self.gathers(roads, [(at, 1, 1) for at in range(6)])

    def test_more_steps(self):
        for roads in ([(0, 1, 31)], [(0, 1, 15), (1, 2, 16)], [(0, at, 2) for at in range(1, 24)], [(0, 1, LONG)]):
            size = sum(length for _, _, length in roads)
            for many in (1, 6):
                self.refuses(BadCount, {"what": "places", "count": size}, fewest, tree_of(roads), [march_of(0, 0, 1)] * many)

    def test_no_marches_and_too_many(self):
        for roads in (FORK, [(0, 1, 30)], [(0, 1, 31)], [(0, 1, LONG)]):
            for many in (0, 7, 8, 24, 25, 100):
                self.refuses(BadCount, {"what": "marches", "count": many}, fewest, tree_of(roads), [march_of(0, 1, 1)] * many)

    def test_the_errors_of_the_row_come_first(self):
        bad = [
            (March(Place(3, 0, 1), 0), NoRoad, {"road": 3}),
            (March(Place(1, 5, 2), 0), OffRoad, {"road": 1}),
            (March(Place(2, 1, 2), 0), NotWhole, {"march": 0}),
            (march_of(0, 1, 0), BadCount, {"what": "steps", "count": 0}),
            (march_of(0, 1, LONG + 1), BadCount, {"what": "steps", "count": LONG + 1}),
        ]
        for roads in (FORK, [(0, 1, 3), (0, 2, 2), (3, 0, LONG)]):
            for march, error, fields in bad:
                for more in (0, 5, 6, 23):
                    self.refuses(error, fields, fewest, tree_of(roads), [march] + [march_of(0, 1, 1)] * more)

    def test_a_tuple_of_marches(self):
        marches = [march_of(0, 0, 6), march_of(0, 10, 5)]
        self.assertEqual(fewest(tree_of(LINE), tuple(marches)), fewest(tree_of(LINE), marches))

    def test_by_keyword(self):
        self.assertEqual(fewest(marches=[march_of(0, 0, 10)], tree=tree_of(LINE)), [0])

    def test_the_returned_list_belongs_to_the_caller(self):
        tree, marches = tree_of(LINE), [march_of(0, 0, 3), march_of(0, 4, 2)]
        found = fewest(tree, marches)
        kept = list(found)
        found.append(7)
        self.assertEqual(fewest(tree, marches), kept)
        self.assertEqual(marches, [march_of(0, 0, 3), march_of(0, 4, 2)])
        self.assertEqual(tree, tree_of(LINE))


class FewestAgainstSearching(unittest.TestCase):
    """Compared with a search over all sequences."""

    def test_many_trees(self):
        lengths = []
        for seed in range(200):
            choices = Choices(9800 + seed)
            roads = choices.roads(2 + choices.below(6), 1 + choices.below(4))
            marches = choices.marches(roads, 1 + choices.below(6), 1 + choices.below(4))
            found = fewest(tree_of(roads), [march_of(*march) for march in marches])
            net = Net(len(roads) + 1, roads, 1)
            self.assertEqual(len(found), fewest_of(net, marches))
            self.assertEqual(len(set(net.images([marches[at] for at in found]).values())), 1)
            lengths.append(len(found))
        self.assertGreater(max(lengths), 6)

    def test_every_single_sequence(self):
        for seed in range(40):
            choices = Choices(9900 + seed)
            roads = choices.roads(2 + choices.below(4), 3)
            marches = choices.marches(roads, 1 + choices.below(3), 3)
            found = fewest(tree_of(roads), [march_of(*march) for march in marches])
            net = Net(len(roads) + 1, roads, 1)
            shorter = [
                indexes for many in range(min(len(found), 6)) for indexes in product(range(len(marches)), repeat=many)
                if len(set(net.images([marches[at] for at in indexes]).values())) == 1
            ]
            self.assertEqual(shorter, [])

    def test_large_trees(self):
        for seed in range(6):
            choices = Choices(9950 + seed)
            roads = [(a, b, 1) for a, b, _ in choices.roads(18 + seed, 1)]
            roads[0] = (*roads[0][:2], 31 - len(roads))
            marches = choices.marches(roads, 6, 2)
            found = fewest(tree_of(roads), [march_of(*march) for march in marches])
            net = Net(len(roads) + 1, roads, 1)
            self.assertEqual(len(found), fewest_of(net, marches))
            self.assertEqual(len(set(net.images([marches[at] for at in found]).values())), 1)


if __name__ == "__main__":
    unittest.main()
