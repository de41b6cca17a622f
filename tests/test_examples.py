"""The examples of the document, a test for each block."""

import unittest

from asking import Asking

from onetrain.alike import Alike, held
from onetrain.backs import back
from onetrain.book import Book
from onetrain.desk import Desk
from onetrain.doings import doing, is_doing
from onetrain.errors import BadCount, BadText, NoCrossing, RingRoad
from onetrain.fates import far, fate, meet
from onetrain.marches import March, Row, after
from onetrain.places import Place, corner, distance, key, step
from onetrain.rowtexts import place_text, read_row, read_tree, row_text, tree_rows
from onetrain.settling import fewest, settled
from onetrain.trains import is_train, train
from onetrain.trees import Road, Tree


def fork():
    return Tree(4, [Road(0, 1, 3), Road(0, 2, 2), Road(3, 0, 4)])


class TreeExamples(Asking, unittest.TestCase):
    def test_ring_road(self):
        self.refuses(RingRoad, {"road": 1}, Tree, 3, [Road(0, 1, 1), Road(1, 0, 2)])

    def test_no_crossing(self):
        self.refuses(NoCrossing, {"crossing": 2}, Tree, 2, [Road(0, 2, 1)])


class PlaceExamples(Asking, unittest.TestCase):
    def test_lowest_terms(self):
        half = Place(0, 2, 4)
        self.assertEqual((half.road, half.number, half.parts), (0, 1, 2))

    def test_no_parts(self):
        self.refuses(BadCount, {"what": "parts", "count": 0}, Place, 0, 1, 0)

    def test_key(self):
        middle = key(fork(), Place(2, 4, 1))
        self.assertEqual((middle.road, middle.number, middle.parts), (0, 0, 1))

    def test_corner(self):
        end = corner(fork(), 3)
        self.assertEqual((end.road, end.number, end.parts), (2, 0, 1))

    def test_distance_of_whole_places(self):
        self.assertEqual(distance(fork(), Place(0, 2, 1), Place(2, 3, 1)), (3, 1))

    def test_distance_of_fractions(self):
        self.assertEqual(distance(fork(), Place(0, 1, 2), Place(1, 1, 3)), (5, 6))

    def test_step(self):
        there = step(fork(), Place(0, 2, 1), Place(1, 2, 1), 3)
        self.assertEqual((there.road, there.number, there.parts), (1, 1, 1))

    def test_negative_steps(self):
        self.refuses(BadCount, {"what": "steps", "count": -1}, step, fork(), Place(0, 2, 1), Place(1, 2, 1), -1)


class MarchExamples(unittest.TestCase):
    def row(self):
        return Row(fork(), [March(Place(0, 3, 1), 2)])

    def test_after(self):
        there = after(self.row(), Place(1, 1, 1))
        self.assertEqual((there.road, there.number, there.parts), (0, 1, 1))

    def test_doing(self):
        found = doing(self.row())
        one = found[0]
        self.assertEqual((len(found), one.road, one.least, one.greatest), (4, 0, 0, 1))
        self.assertEqual((one.first.number, one.last.number), (2, 3))

    def test_is_doing(self):
        row = self.row()
        self.assertIs(is_doing(row, doing(row)), True)


class HeldExamples(unittest.TestCase):
    def setUp(self):
        self.line = Tree(2, [Road(0, 1, 3)])
        self.goal = Place(0, 0, 1)

    def test_alike(self):
        one = Row(self.line, [March(self.goal, 1), March(self.goal, 1)])
        self.assertIs(held(one, Row(self.line, [March(self.goal, 2)])) == Alike(), True)

    def test_parted(self):
        found = held(Row(self.line, [March(self.goal, 1)]), Row(self.line, [March(self.goal, 2)]))
        self.assertEqual((found.place.number, found.ours.number, found.theirs.number), (2, 1, 0))


class BackExamples(unittest.TestCase):
    def test_back(self):
        line = Tree(2, [Road(0, 1, 3)])
        found = back(Row(line, [March(Place(0, 0, 1), 2)]), Place(0, 0, 1))
        self.assertEqual((len(found), found[0].least, found[0].greatest, found[0].parts), (1, 0, 2, 1))


def shuttle():
    return Row(fork(), [March(Place(0, 3, 1), 2), March(Place(2, 0, 1), 2)])


def turning():
    star = Tree(4, [Road(0, 1, 10), Road(0, 2, 10), Road(0, 3, 10)])
    return Row(star, [March(Place(1, 10, 1), 5), March(Place(2, 10, 1), 6), March(Place(0, 10, 1), 5)])


class TrainExamples(Asking, unittest.TestCase):
    def ends(self, found):
        return (found.one.road, found.one.number, found.other.road, found.other.number, found.is_turned)

    def test_train(self):
        self.assertEqual(self.ends(train(shuttle())), (0, 1, 2, 0, False))

    def test_a_train_that_is_turned(self):
        self.assertEqual(self.ends(train(turning())), (0, 0, 0, 4, True))

    def test_no_marches(self):
        line = Tree(2, [Road(0, 1, 3)])
        self.refuses(BadCount, {"what": "marches", "count": 0}, train, Row(line, []))

    def test_is_train(self):
        self.assertIs(is_train(turning(), train(turning())), True)


class FateExamples(unittest.TestCase):
    def test_fate(self):
        self.assertEqual(fate(shuttle(), Place(0, 3, 1)), (1, 1))

    def test_fate_in_a_train_that_is_turned(self):
        self.assertEqual(fate(turning(), Place(0, 1, 1)), (0, 2))

    def test_far(self):
        there = far(shuttle(), Place(0, 3, 1), 10 ** 30)
        self.assertEqual((there.road, there.number, there.parts), (0, 1, 1))

    def test_meet(self):
        self.assertEqual(meet(shuttle(), Place(0, 3, 1), Place(0, 2, 1)), 1)

    def test_never(self):
        self.assertIsNone(meet(shuttle(), Place(0, 1, 1), Place(2, 0, 1)))


class SettlingExamples(unittest.TestCase):
    def setUp(self):
        self.line = Tree(2, [Road(0, 1, 3)])

    def test_settled(self):
        self.assertEqual(settled(Row(self.line, [March(Place(0, 0, 1), 1)])), 3)

    def test_fewest(self):
        self.assertEqual(fewest(self.line, [March(Place(0, 0, 1), 2), March(Place(0, 3, 1), 1)]), [0, 0])


class BookExamples(unittest.TestCase):
    def test_book(self):
        book = Book(Tree(2, [Road(0, 1, 3)]))
        book.keep("a", [March(Place(0, 0, 1), 2)])
        book.post(Place(0, 3, 1))
        book.call("a")
        person = book.where()[0]
        self.assertEqual((person.road, person.number, book.many()), (0, 1, 3))


class TextExamples(Asking, unittest.TestCase):
    def setUp(self):
        self.line = Tree(2, [Road(0, 1, 3)])

    def test_place_text(self):
        self.assertEqual(place_text(Place(0, 1, 2)), "0:1/2")

    def test_row_text(self):
        self.assertEqual(row_text(Row(self.line, [March(Place(0, 0, 1), 2)])), "0:0 2")

    def test_read_row(self):
        self.refuses(BadText, {"place": 1}, read_row, self.line, "0:0 2, x")

    def test_tree_rows(self):
        self.assertEqual(tree_rows(read_tree(["road 0 1 3"])), ["road 0 1 3"])


class DeskExamples(unittest.TestCase):
    def setUp(self):
        self.desk = Desk(Tree(2, [Road(0, 1, 3)]))

    def test_after(self):
        self.desk.tell("keep a 0:0 2")
        self.assertEqual(self.desk.tell("after a 1 0:3"), ["0:1"])

    def test_drop(self):
        self.assertEqual(self.desk.tell("drop a"), ["refused norow"])


if __name__ == "__main__":
    unittest.main()
