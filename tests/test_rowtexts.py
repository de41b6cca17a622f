"""[16]: trees, places and rows as texts."""

import unittest

from asking import Asking, march_of, row_of, tree_of
from oracle import Choices
from reading import MARKS, march_in, marches_in, place_in, road_in, spoilt
from rounds import any_rows

from onetrain.errors import (
    BadCount, BadRow, BadText, NoCrossing, NoRoad, NotWhole, OffRoad, RingRoad, TrainError,
)
from onetrain.marches import March, Row
from onetrain.places import Place, key
from onetrain.rowtexts import place_text, read_row, read_tree, row_text, tree_rows
from onetrain.trees import Road, Tree

FORK = [(0, 1, 3), (0, 2, 2), (3, 0, 4)]
FORK_ROWS = ["road 0 1 3", "road 0 2 2", "road 3 0 4"]
LONG = 10 ** 9
DIGITS_31 = "9" * 31
DIGITS_32 = "1" + "0" * 31


def outcome(action, *args):
    """What a call returns, or its error's class and fields."""
    try:
        return action(*args)
    except TrainError as error:
        return (type(error), vars(error))


class TreeRows(Asking, unittest.TestCase):
    def test_rows_in_order(self):
        found = tree_rows(tree_of(FORK))
        self.assertIs(type(found), list)
        self.assertEqual(found, FORK_ROWS)
        self.assertEqual(tree_rows(tree_of([(1, 0, LONG)])), ["road 1 0 1000000000"])

    def test_read_back(self):
        for seed in range(60):
            tree = tree_of(Choices(12000 + seed).roads(2 + seed % 23, LONG))
            self.assertEqual(read_tree(tree_rows(tree)), tree)
            self.assertEqual(tree_rows(read_tree(tree_rows(tree))), tree_rows(tree))

    def test_one_crossing_more_than_rows(self):
        tree = read_tree(FORK_ROWS)
        self.assertIs(type(tree), Tree)
        self.assertEqual(tree.crossings, 4)
        self.assertEqual(tree, tree_of(FORK))
        self.assertEqual(read_tree(["road 0 1 1"]).crossings, 2)

    def test_a_tuple_of_rows(self):
        self.assertEqual(read_tree(tuple(FORK_ROWS)), tree_of(FORK))

    def test_by_keyword(self):
        self.assertEqual(tree_rows(tree=read_tree(rows=FORK_ROWS)), FORK_ROWS)

    def test_an_empty_list(self):
        self.refuses(BadRow, {"number": 1}, read_tree, [])
        self.refuses(BadRow, {"number": 1}, read_tree, ())

    def test_rows_of_another_form(self):
        wrong = [
            "", " ", "road", "road ", "road 0", "road 0 1", "road 0 1 ", "road 0 1 3 ", " road 0 1 3", "road  0 1 3",
            "road 0  1 3", "road 0 1  3", "road 0 1 3 4", "0 1 3", "Road 0 1 3", "roads 0 1 3", "road0 1 3", "ROAD 0 1 3",
            "road 00 1 3", "road 0 01 3", "road 0 1 03", "road -0 1 3", "road +0 1 3", "road 0 -1 3", "road 0 1 -3",
            "road 0 1 +3", "road a 1 3", "road 0 b 3", "road 0 1 c", "road 0,1,3", "road 0:1 3", "road 0 1 3.0",
            "road 0 1 1e3", "road 0 1 1_0", "road 0 1 0x1", "road 0 1 " + DIGITS_32, "road " + DIGITS_32 + " 1 3",
            "road 0 " + DIGITS_32 + " 3", "none", "road none", "crossings 2", "road 0 1 3,", "road 0 1 3\\n",
        ]
        for row in wrong:
            self.assertIsNone(road_in(row))
            self.refuses(BadRow, {"number": 1}, read_tree, [row])
            for at in range(3):
                rows = list(FORK_ROWS)
                rows[at] = row
                self.refuses(BadRow, {"number": at + 1}, read_tree, rows)
                self.refuses(BadRow, {"number": at + 1}, read_tree, rows[:at + 1] + wrong)

    def test_one_character_inserted_removed_or_replaced(self):
        kinds = []
        for row in ("road 0 1 30", "road 10 0 1"):
            for text in spoilt(row, MARKS):
                numbers = road_in(text)
                if numbers is None:
                    expected = (BadRow, {"number": 1})
                else:
                    expected = outcome(lambda: Tree(2, [Road(*numbers)]))
                self.assertEqual(outcome(read_tree, [text]), expected)
                kinds.append(numbers is None)
        self.assertGreater(kinds.count(True), 1000)
        self.assertGreater(kinds.count(False), 50)

    def test_the_form_of_all_rows_comes_before_the_errors_of_the_tree(self):
        self.refuses(BadRow, {"number": 3}, read_tree, ["road 7 1 0", "road 0 0 1", "x"])
        self.refuses(BadRow, {"number": 30}, read_tree, ["road 0 1 1"] * 29 + ["road 0 1"])

    def test_the_errors_of_the_tree(self):
        self.refuses(BadCount, {"what": "crossings", "count": 25}, read_tree, ["road 0 1 1"] * 24)
        self.refuses(BadCount, {"what": "crossings", "count": 101}, read_tree, ["road 0 1 0"] * 100)
        self.refuses(NoCrossing, {"crossing": 2}, read_tree, ["road 0 2 1"])
        self.refuses(NoCrossing, {"crossing": int(DIGITS_31)}, read_tree, ["road " + DIGITS_31 + " 2 1"])
        self.refuses(BadCount, {"what": "length", "count": 0}, read_tree, ["road 0 1 0"])
        self.refuses(BadCount, {"what": "length", "count": LONG + 1}, read_tree, ["road 0 1 1000000001"])
        self.refuses(BadCount, {"what": "length", "count": int(DIGITS_31)}, read_tree, ["road 0 1 " + DIGITS_31])
        self.refuses(RingRoad, {"road": 0}, read_tree, ["road 1 1 1"])
        self.refuses(RingRoad, {"road": 1}, read_tree, ["road 0 1 1", "road 1 0 2"])

    def test_arguments_and_results(self):
        rows = list(FORK_ROWS)
        tree = read_tree(rows)
        self.assertEqual(rows, FORK_ROWS)
        rows.clear()
        found = tree_rows(tree)
        found.clear()
        self.assertEqual(tree_rows(tree), FORK_ROWS)


class PlaceTexts(unittest.TestCase):
    def test_texts(self):
        for place, text in [
            (Place(0, 1, 2), "0:1/2"), (Place(0, 2, 4), "0:1/2"), (Place(22, 0, 1), "22:0"), (Place(3, 8, 4), "3:2"),
            (Place(0, LONG, 1), "0:1000000000"), (Place(1, 7, 10 ** 30), "1:7/1" + "0" * 30),
            (Place(0, 0, 9), "0:0"), (Place(-1, -3, 2), "-1:-3/2"),
        ]:
            self.assertEqual(place_text(place), text)
            self.assertEqual(place_text(place=place), text)

    def test_numbers_of_very_many_digits(self):
        for many in (31, 32, 100, 1000, 3999):
            self.assertEqual(place_text(Place(0, 1, 10 ** many)), "0:1/1" + "0" * many)
            self.assertEqual(place_text(Place(0, 10 ** many, 1)), "0:1" + "0" * many)
        nines = "9" * 4000
        self.assertEqual(place_text(Place(1, 10 ** 4000 - 1, 10 ** 3999)), "1:" + nines + "/1" + "0" * 3999)


class RowTexts(Asking, unittest.TestCase):
    def test_texts(self):
        for marches, text in [
            ([], "none"), ([(0, 0, 2)], "0:0 2"), ([(0, 3, 2), (2, 4, LONG)], "0:3 2, 2:4 1000000000"),
            ([(1, 0, 1), (2, 4, 1), (0, 0, 1)], "1:0 1, 2:4 1, 0:0 1"),
        ]:
            row = row_of(FORK, marches)
            self.assertEqual(row_text(row), text)
            self.assertEqual(row_text(row=row), text)
            self.assertEqual(read_row(row.tree, text), row)
            self.assertEqual(row_text(read_row(row.tree, text)), text)
            self.assertEqual(read_row(text=text, tree=row.tree), row)

    def test_read_back(self):
        for roads, marches in any_rows(12100, 60):
            row = row_of(roads, marches)
            found = read_row(row.tree, row_text(row))
            self.assertIs(type(found), Row)
            self.assertEqual(found.marches, row.marches)
            self.assertEqual(found, row)

    def test_24_marches(self):
        text = ", ".join(f"0:{at % 4} {at + 1}" for at in range(24))
        self.assertEqual(row_text(read_row(tree_of(FORK), text)), text)
        self.assertEqual(text.count(", "), 23)

    def test_goals_with_parts(self):
        for text, told in [("0:4/2 1", "0:2 1"), ("0:6/3 1", "0:2 1"), ("0:0/7 1", "0:0 1"),
                           ("2:8/2 1, 1:4/4 1", "2:4 1, 1:1 1"), (f"0:0/{DIGITS_31} 1", "0:0 1")]:
            self.assertEqual(row_text(read_row(tree_of(FORK), text)), told)
        self.refuses(NotWhole, {"march": 0}, read_row, tree_of(FORK), "0:1/2 1")
        self.refuses(NotWhole, {"march": 1}, read_row, tree_of(FORK), "0:2/2 1, 0:2/4 1")

    def test_texts_of_another_form(self):
        wrong = [
            "", " ", "x", "0", "0:", "0:0", "0:0 ", " 0:0 2", "0:0 2 ", "0:0  2", "0 :0 2", "0: 0 2", "0:0 2,", ":0 2",
            "0:0 2 3", "00:0 2", "0:00 2", "0:01 2", "0:0 02", "0:0 00", "-0:0 2", "+0:0 2", "0:-1 2", "0:0 -2", "0:0 +2",
            "0:0:0 2", "0:0/ 2", "0:0/0 2", "0:0/1 2", "0:0/01 2", "0:0/02 2", "0:0/-2 2", "0:0/2/2 2", "0:1 /2 2", "/2 2",
            "0/2:0 2", "0.0 2", "0:0,2", "0:0;2", "a:0 2", "0:a 2", "0:0 a", "0:0 1e2", "0:0 1_0", "0:0 2.", "None", "NONE",
            "none ", " none", "none none", "nonee", "non", "0:0 none", "none 0:0 2", DIGITS_32 + ":0 2",
            "0:" + DIGITS_32 + " 2", "0:0 " + DIGITS_32, "0:0/" + DIGITS_32 + " 2", "0:0 0" + DIGITS_31,
        ]
        tree = tree_of(FORK)
        for text in wrong:
            self.assertIsNone(march_in(text))
            self.refuses(BadText, {"place": 0}, read_row, tree, text)
            self.refuses(BadText, {"place": 0}, read_row, tree, text + ", 0:0 2")
            self.refuses(BadText, {"place": 1}, read_row, tree, "0:0 2, " + text)
            self.refuses(BadText, {"place": 2}, read_row, tree, "0:0 2, 0:1/2 0, " + text + ", " + text)

    def test_separators(self):
        tree = tree_of(FORK)
        for text, place in [
            ("0:0 2,0:1 2", 0), ("0:0 2 ,0:1 2", 0), ("0:0 2 , 0:1 2", 0), ("0:0 2,  0:1 2", 1), ("0:0 2,, 0:1 2", 0),
            ("0:0 2, , 0:1 2", 1), ("0:0 2, ", 1), (", 0:0 2", 0), (", ", 0), (",", 0), ("0:0 2 0:1 2", 0),
            ("0:0 2; 0:1 2", 0), ("0:0 2, none", 1), ("none, 0:0 2", 0), ("none, none", 0), ("0:0 2, 0:1 2,", 1),
            ("0:0 2, 0:1 2, ", 2), ("0:0, 2", 0), ("0:0 2, 0:1, 2", 1),
        ]:
            self.refuses(BadText, {"place": place}, read_row, tree, text)

    def test_numbers_of_31_digits(self):
        tree = tree_of(FORK)
        big = int(DIGITS_31)
        self.refuses(NoRoad, {"road": big}, read_row, tree, f"{DIGITS_31}:0 2")
        self.refuses(OffRoad, {"road": 1}, read_row, tree, f"1:{DIGITS_31} 2")
        self.refuses(BadCount, {"what": "steps", "count": big}, read_row, tree, f"1:0 {DIGITS_31}")
        self.refuses(NotWhole, {"march": 0}, read_row, tree, f"1:1/{DIGITS_31} 2")
        self.assertEqual(row_text(read_row(tree, f"1:{DIGITS_31}/{DIGITS_31} 2")), "1:1 2")

    def test_the_form_of_all_parts_comes_before_the_errors_of_the_row(self):
        tree = tree_of(FORK)
        self.refuses(BadText, {"place": 2}, read_row, tree, "9:0 0, 0:1/2 1, x")
        self.refuses(BadText, {"place": 30}, read_row, tree, "0:0 1, " * 30 + "0:0")
        self.refuses(BadCount, {"what": "marches", "count": 25}, read_row, tree, "9:0 0, " * 24 + "9:0 0")

    def test_the_errors_of_the_row(self):
        tree = tree_of(FORK)
        self.refuses(NoRoad, {"road": 3}, read_row, tree, "0:0 1, 3:0 0")
        self.refuses(OffRoad, {"road": 1}, read_row, tree, "0:0 1, 1:3 0")
        self.refuses(OffRoad, {"road": 1}, read_row, tree, "1:5/2 0")
        self.refuses(NotWhole, {"march": 1}, read_row, tree, "0:0 1, 2:1/2 0")
        self.refuses(BadCount, {"what": "steps", "count": 0}, read_row, tree, "0:0 1, 2:1 0")
        self.refuses(BadCount, {"what": "steps", "count": LONG + 1}, read_row, tree, "2:1 1000000001")

    def expected_row(self, tree, text):
        """What `read_row` must return, or its error's class and fields."""
        marches = marches_in(text)
        if isinstance(marches, int):
            return (BadText, {"place": marches})
        return outcome(lambda: Row(tree, [March(Place(*goal), steps) for goal, steps in marches]))

    def test_one_character_inserted_removed_or_replaced(self):
        tree = tree_of(FORK)
        kinds = []
        for text in ("0:10/5 20, 2:4 1", "none", "1:0 1"):
            self.assertEqual(read_row(tree, text), self.expected_row(tree, text))
            for changed in spoilt(text, MARKS):
                expected = self.expected_row(tree, changed)
                self.assertEqual(outcome(read_row, tree, changed), expected)
                kinds.append("row" if isinstance(expected, Row) else expected[0])
        for kind in ("row", BadText, NoRoad, OffRoad, NotWhole, BadCount):
            self.assertIn(kind, kinds)

    def test_any_texts_of_these_parts(self):
        tree = tree_of(FORK)
        choices = Choices(12200)
        kinds = []
        for _ in range(10000):
            parts = ["0", "1", "2", ":", "/", " ", ",", ", ", "0:", "1:2 1", "0:0/2 "]
            text = "".join(parts[choices.below(len(parts))] for _ in range(1 + choices.below(7)))
            expected = self.expected_row(tree, text)
            self.assertEqual(outcome(read_row, tree, text), expected)
            kinds.append(isinstance(expected, Row))
        self.assertGreater(kinds.count(True), 100)

    def test_the_reader_of_these_tests(self):
        self.assertEqual(place_in("0:1/2"), (0, 1, 2))
        self.assertEqual(march_in("0:1/2 3"), ((0, 1, 2), 3))
        self.assertEqual(marches_in("0:1 3, 0:1/1 3"), 1)
        self.assertEqual(road_in("road 0 1 3"), (0, 1, 3))

    def test_arguments_do_not_change(self):
        row = row_of(FORK, [(2, 4, 1), (1, 0, 2)])
        row_text(row)
        self.assertEqual(row, Row(tree_of(FORK), [march_of(0, 0, 1), march_of(0, 0, 2)]))
        self.assertEqual([march.goal.road for march in row.marches], [2, 1])
        self.assertEqual(row_text(row), "2:4 1, 1:0 2")
        self.assertEqual(place_text(key(row.tree, row.marches[0].goal)), "0:0")


if __name__ == "__main__":
    unittest.main()
