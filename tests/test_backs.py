"""[10]: all positions that a row moves to one place."""

import unittest
from fractions import Fraction
from math import gcd

from asking import Asking, Everything, place_of, row_of, told, tree_of
from oracle import Choices, Net, labelled_trees, varied_roads
from rounds import any_rows, carrying_rows, pieces_to
from wide import EXACTLY_400, EXACTLY_401, EXACTLY_630, GATHER, LONG_STAR, SCALE, STAR, tip_marches

from onetrain.backs import Piece, back
from onetrain.doings import doing
from onetrain.errors import NoRoad, OffRoad, Wide
from onetrain.marches import after
from onetrain.places import Place, key

FORK = [(0, 1, 3), (0, 2, 2), (3, 0, 4)]
LINE = [(0, 1, 10)]
BEAM = [(0, 1, 10), (0, 2, 10), (0, 3, 10)]
LONG = 10 ** 9


def rows_of(pieces):
    return [(piece.road, piece.least, piece.greatest, piece.parts) for piece in pieces]


class Pieces(unittest.TestCase):
    def test_fields(self):
        for piece in (Piece(1, 2, 5, 3), Piece(parts=3, greatest=5, least=2, road=1)):
            self.assertEqual(vars(piece), {"road": 1, "least": 2, "greatest": 5, "parts": 3})

    def test_creating_a_piece_raises_no_error(self):
        for fields in [(-1, 5, -10 ** 30, 0), (0, 0, 0, -1), (7, -2, 4, 2)]:
            self.assertEqual(rows_of([Piece(*fields)]), [fields])

    def test_equal_if_all_fields_are_equal(self):
        self.assertIs(Piece(1, 2, 5, 3) == Piece(1, 2, 5, 3), True)
        self.assertIs(Piece(1, 2, 5, 3) != Piece(1, 2, 5, 3), False)
        for other in [(0, 2, 5, 3), (1, 1, 5, 3), (1, 2, 4, 3), (1, 2, 5, 1), (2, 1, 5, 3)]:
            self.assertIs(Piece(1, 2, 5, 3) == Piece(*other), False)
            self.assertIs(Piece(1, 2, 5, 3) != Piece(*other), True)

    def test_never_equal_to_other_values(self):
        for other in [(1, 2, 5, 3), [1, 2, 5, 3], Place(1, 2, 5), None, 1, "1", Everything()]:
            self.assertIs(Piece(1, 2, 5, 3) == other, False)


class Backs(Asking, unittest.TestCase):
    def leads(self, roads, marches, place, expected):
        found = back(row_of(roads, marches), Place(*place))
        self.assertIs(type(found), list)
        self.assertEqual([type(piece) for piece in found], [Piece] * len(found))
        self.assertEqual(rows_of(found), expected)
        if sum(length for _, _, length in roads) < LONG:
            road, number, parts = (*place, 1)[:3]
            net = Net(len(roads) + 1, roads, parts)
            goal = net.of(road, Fraction(number, parts))
            self.assertEqual(pieces_to(net, net.images(marches), goal), expected)

    def test_a_long_stretch(self):
        self.leads(LINE, [(0, 0, 4)], (0, 0, 1), [(0, 0, 4, 1)])
        self.leads(LINE, [(0, 5, 2)], (0, 5, 1), [(0, 3, 7, 1)])
        self.leads(FORK, [(0, 3, 2)], (0, 3, 1), [(0, 1, 3, 1)])

    def test_a_long_stretch_on_several_roads(self):
        for place in [(0, 0, 1), (1, 0, 1), (2, 4, 1)]:
            self.leads(FORK, [(1, 0, 2)], place, [(0, 0, 2, 1), (1, 0, 2, 1), (2, 2, 4, 1)])

    def test_everyone(self):
        self.leads(FORK, [(2, 0, 9)], (2, 0, 1), [(0, 0, 3, 1), (1, 0, 2, 1), (2, 0, 4, 1)])

    def test_a_single_whole_position(self):
        self.leads(LINE, [(0, 0, 4)], (0, 1, 1), [(0, 5, 5, 1)])
        self.leads(LINE, [(0, 0, 4)], (0, 6, 1), [(0, 10, 10, 1)])
        self.leads(FORK, [(0, 3, 2)], (2, 2, 1), [(2, 0, 0, 1)])

    def test_a_single_fractional_position(self):
        self.leads(LINE, [(0, 0, 4)], (0, 1, 3), [(0, 13, 13, 3)])
        self.leads(LINE, [(0, 5, 2)], (0, 11, 2), [(0, 15, 15, 2)])

    def test_single_positions_on_several_roads(self):
        self.leads(BEAM, [(0, 10, 3)], (0, 5, 2), [(1, 1, 1, 2), (2, 1, 1, 2)])
        self.leads(BEAM, [(0, 10, 3)], (0, 3, 1), [(0, 0, 0, 1), (1, 0, 0, 1), (2, 0, 0, 1)])

    def test_two_pieces_of_one_road(self):
        # Road 0 is moved over the crossing one step into road 1, and turns back there.
        marches = [(2, 10, 3), (1, 10, 1)]
        self.leads(BEAM, marches, (0, 0, 1), [(0, 2, 2, 1), (0, 4, 4, 1), (1, 2, 2, 1)])
        self.leads(BEAM, marches, (1, 1, 2), [(0, 5, 5, 2), (0, 7, 7, 2), (1, 5, 5, 2)])

    def test_the_position_where_the_image_turns_back(self):
        marches = [(2, 10, 3), (1, 10, 1)]
        self.leads(BEAM, marches, (1, 1, 1), [(0, 3, 3, 1), (1, 3, 3, 1)])

    def test_nothing_is_moved_there(self):
        self.leads(LINE, [(0, 0, 4)], (0, 7, 1), [])
        self.leads(LINE, [(0, 0, 4)], (0, 13, 2), [])
        self.leads(LINE, [(0, 5, 2)], (0, 0, 1), [])
        self.leads(FORK, [(0, 3, 2)], (1, 1, 1), [])
        self.leads(FORK, [(2, 0, 9)], (0, 0, 1), [])

    def test_a_row_without_marches(self):
        for place in [(0, 0, 1), (1, 0, 1), (2, 4, 1)]:
            self.leads(FORK, [], place, [(0, 0, 0, 1), (1, 0, 0, 1), (2, 4, 4, 1)])
        self.leads(FORK, [], (2, 0, 1), [(2, 0, 0, 1)])
        self.leads(FORK, [], (1, 1, 1), [(1, 1, 1, 1)])
        self.leads(FORK, [], (2, 10, 4), [(2, 5, 5, 2)])

    def test_zero_in_lowest_terms(self):
        self.leads(FORK, [], (2, 0, 7), [(2, 0, 0, 1)])

    def test_a_crossing_may_be_given_on_any_of_its_roads(self):
        for roads, marches in any_rows(700, 40):
            row = row_of(roads, marches)
            for road, (a, b, length) in enumerate(roads):
                for number in (0, length):
                    place = Place(road, number, 1)
                    self.assertEqual(back(row, place), back(row, key(row.tree, place)))

    def test_long_roads(self):
        self.leads([(0, 1, LONG)], [(0, 0, LONG - 1)], (0, 0, 1), [(0, 0, LONG - 1, 1)])
        self.leads([(0, 1, LONG)], [(0, 0, LONG - 1)], (0, 1, 1), [(0, LONG, LONG, 1)])
        self.leads([(0, 1, LONG)], [(0, 0, LONG - 1)], (0, 2, 1), [])
        tiny = 10 ** 30
        at = (LONG - 1) * tiny + 1
        self.leads([(0, 1, LONG)], [(0, 0, LONG - 1)], (0, 1, tiny), [(0, at, at, tiny)])
        roads = [(0, 1, LONG), (0, 2, LONG), (3, 0, LONG)]
        self.leads(roads, [(2, 0, LONG - 1), (1, LONG, 1)], (2, 1, 1), [(2, 0, LONG - 1, 1)])
        self.leads(roads, [(0, LONG, LONG)], (0, LONG, 1), [(0, 0, LONG, 1), (1, 0, 0, 1), (2, LONG, LONG, 1)])

    def test_by_keyword(self):
        row = row_of(LINE, [(0, 0, 4)])
        self.assertEqual(rows_of(back(place=Place(0, 1, 1), row=row)), [(0, 5, 5, 1)])

    def test_places_that_the_tree_does_not_have(self):
        for row in (row_of(FORK, []), row_of(FORK, [(0, 3, 2)])):
            for road in (-1, 3, 10 ** 30):
                self.refuses(NoRoad, {"road": road}, back, row, Place(road, -1, 1))
            for road, length in enumerate((3, 2, 4)):
                self.refuses(OffRoad, {"road": road}, back, row, Place(road, -1, 10 ** 30))
                self.refuses(OffRoad, {"road": road}, back, row, Place(road, 2 * length + 1, 2))

    def test_the_errors_of_the_place_come_before_those_of_doing(self):
        row = row_of(STAR, tip_marches(EXACTLY_401))
        self.refuses(NoRoad, {"road": 8}, back, row, Place(8, 0, 1))
        self.refuses(OffRoad, {"road": 7}, back, row, Place(7, 101, 1))
        self.refuses(Wide, {"count": 401}, back, row, Place(7, 100, 1))

    def test_rows_that_are_too_wide(self):
        for pairs in (EXACTLY_401, EXACTLY_630, EXACTLY_401 + GATHER):
            self.refuses(Wide, {"count": 401}, back, row_of(STAR, tip_marches(pairs)), Place(0, 1, 1))
            self.refuses(Wide, {"count": 401}, back, row_of(LONG_STAR, tip_marches(pairs, SCALE)), Place(0, 1, 1))


class Conventions(unittest.TestCase):
    def test_the_returned_list_belongs_to_the_caller(self):
        row = row_of(FORK, [(1, 0, 2)])
        expected = [(0, 0, 2, 1), (1, 0, 2, 1), (2, 2, 4, 1)]
        found = back(row, Place(0, 0, 1))
        found[0].least = 7
        found.pop()
        self.assertEqual(rows_of(back(row, Place(0, 0, 1))), expected)
        found.clear()
        self.assertEqual(rows_of(back(row, Place(0, 0, 1))), expected)

    def test_the_arguments_do_not_change(self):
        row, place = row_of(FORK, [(2, 4, 1), (1, 0, 2)]), Place(1, 0, 1)
        back(row, place)
        self.assertEqual(told(place), (1, 0))
        self.assertEqual([(told(march.goal), march.steps) for march in row.marches], [((2, 4), 1), ((1, 0), 2)])
        self.assertEqual(row.tree, tree_of(FORK))

    def test_each_call_returns_an_equal_list(self):
        for goal in [(0, 0), (1, 0), (2, 4)]:
            self.assertEqual(back(row_of(FORK, [(*goal, 2)]), Place(*goal, 1)),
                             back(row_of(FORK, [(0, 0, 2)]), Place(0, 0, 1)))


class AgainstWalking(unittest.TestCase):
    """Compared with a walk of all positions at the scale of the place."""

    def compare(self, roads, marches, parts):
        net = Net(len(roads) + 1, roads, parts)
        images = net.images(marches)
        row = row_of(roads, marches)
        empty = 0
        for name, spot in net.keys_in_order():
            expected = pieces_to(net, images, spot)
            self.assertEqual(rows_of(back(row, place_of(name))), expected)
            empty += expected == []
        return empty

    def test_all_trees_of_five_crossings(self):
        for turn, pairs in enumerate(labelled_trees(5)):
            choices = Choices(5000 + turn)
            roads = varied_roads(pairs, turn)
            self.compare(roads, choices.marches(roads, 1 + turn % 4, 4), 1 + turn % 2)

    def test_many_rows(self):
        empty = 0
        for at, (roads, marches) in enumerate(any_rows(5100, 120) + carrying_rows(5200, 60)):
            empty += self.compare(roads, marches, 1 + at % 4)
        self.assertGreater(empty, 1000)

    def test_every_position_is_in_the_pieces_of_its_image_alone(self):
        for roads, marches in any_rows(5300, 12, crossings=5):
            row = row_of(roads, marches)
            net = Net(len(roads) + 1, roads, 6)
            pieces = {}
            for name, _ in net.keys_in_order():
                pieces[name] = back(row, place_of(name))
            for name, _ in net.keys_in_order():
                image = told(after(row, place_of(name)))
                holders = [goal for goal, found in pieces.items() if any(self.holds(piece, name) for piece in found)]
                self.assertEqual(holders, [image])

    def holds(self, piece, name):
        road, where = name
        return piece.road == road and piece.least <= where * piece.parts <= piece.greatest

    def test_order_and_lowest_terms(self):
        for at, (roads, marches) in enumerate(any_rows(5400, 60)):
            row = row_of(roads, marches)
            for road, (a, b, length) in enumerate(roads):
                found = rows_of(back(row, Place(road, 1 + at, 2 + at))) if 1 + at <= length * (2 + at) else []
                self.assertEqual(found, sorted(found))
                for _, least, greatest, parts in found:
                    self.assertEqual(gcd(least, greatest, parts), 1)
                for one, other in zip(found, found[1:]):
                    if one[0] == other[0]:
                        self.assertLess(Fraction(one[2], one[3]), Fraction(other[1], other[3]))

    def test_400_stretches(self):
        marches = tip_marches(EXACTLY_400)
        net = Net(9, STAR, 1)
        images = net.images(marches)
        row, long_row = row_of(STAR, marches), row_of(LONG_STAR, tip_marches(EXACTLY_400, SCALE))
        self.assertEqual(len(doing(row)), 400)
        for at, (name, spot) in enumerate(net.keys_in_order()):
            if at % 80 == 0:
                expected = pieces_to(net, images, spot)
                self.assertEqual(rows_of(back(row, place_of(name))), expected)
                found = back(long_row, Place(name[0], int(name[1]) * SCALE, 1))
                self.assertEqual(rows_of(found), [(road, least * SCALE, greatest * SCALE, 1)
                                                  for road, least, greatest, _ in expected])


if __name__ == "__main__":
    unittest.main()
