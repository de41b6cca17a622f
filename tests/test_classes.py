"""[2]: objects of different classes are never equal, whatever they hold."""

import unittest

from asking import Everything

from onetrain.alike import Alike, Parted
from onetrain.backs import Piece
from onetrain.book import Book
from onetrain.desk import Desk
from onetrain.doings import Stretch
from onetrain.errors import OtherTree
from onetrain.marches import March, Row
from onetrain.places import Place
from onetrain.trains import Train
from onetrain.trees import Road, Tree


def one_of_each():
    goal = Place(0, 1, 1)
    tree = Tree(2, [Road(0, 1, 1)])
    march = March(goal, 1)
    return [
        Road(0, 1, 1), tree, goal, march, Row(tree, []), Row(tree, [march]), Stretch(0, 0, 1, goal, goal),
        Alike(), Parted(goal, goal, goal), Piece(0, 1, 1, 1), Train(goal, goal, False, []),
        OtherTree(), Book(tree), Desk(tree), Everything, None, 0, "", (), [], {}, True,
    ]


# How many of these are objects of the package that equal their like.
WITH_EQUALITY = 11


class Classes(unittest.TestCase):
    def test_equal_to_the_same_and_to_nothing_else(self):
        for at, one in enumerate(one_of_each()[:WITH_EQUALITY]):
            for index, other in enumerate(one_of_each()):
                self.assertIs(one == other, at == index)
                self.assertIs(one != other, at != index)
                self.assertIs(other == one, at == index)

    def test_not_equal_to_a_value_that_claims_to_be(self):
        for one in one_of_each()[:WITH_EQUALITY]:
            self.assertIs(one == Everything(), False)

    def test_each_class_defines_its_equality_itself(self):
        for one in one_of_each()[:WITH_EQUALITY]:
            self.assertIn("__eq__", vars(type(one)))


if __name__ == "__main__":
    unittest.main()
