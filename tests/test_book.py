"""[15]: rows by name, people, claims, and going back."""

import unittest
from fractions import Fraction

from asking import Asking, march_of, row_of, told, tree_of
from oracle import Choices, Net
from wide import EXACTLY_400, EXACTLY_401, STAR, tip_marches

from onetrain.book import Book
from onetrain.errors import BadCount, NoBack, NoName, NoRoad, NoRow, NotWhole, OffRoad, TrainError, Wide
from onetrain.marches import March, Row
from onetrain.places import Place

FORK = [(0, 1, 3), (0, 2, 2), (3, 0, 4)]
LINE = [(0, 1, 10)]
# These two rows of the line do the same and are not equal; the third does something else.
SAME = [march_of(0, 0, 1), march_of(0, 0, 1)]
ALIKE = [march_of(0, 0, 2)]
OTHER = [march_of(0, 10, 3)]

VALID = ["a", "z", "a1", "row", "abcdefgh", "a2345678", "zzzzzzzz", "m0n1", "x9"]
INVALID = [
    "", "abcdefghi", "a23456789", "A", "aB", "Abc", "abC", "1", "1a", "0abc", "9", " ", " a", "a ", "a b", "a_b", "_a",
    "a-b", "-", "a.b", "a!", "~", "a/", "a:", "a`", "a{", "@a", "a[", "a,", "a" * 100,
]


def told_state(book):
    """All that a book tells of itself, as plain values."""
    rows = [(name, [(told(march.goal), march.steps) for march in book.row(name).marches]) for name in book.names()]
    return (rows, [told(place) for place in book.where()], book.claims(), book.many())


class Books(Asking, unittest.TestCase):
    def setUp(self):
        self.book = Book(tree_of(LINE))

    def unchanged(self, error, fields, action, *args):
        """The call raises the error and changes nothing."""
        before = told_state(self.book)
        self.refuses(error, fields, action, *args)
        self.assertEqual(told_state(self.book), before)

    def filled(self):
        """A book with rows, people and claims."""
        self.book.keep("a", SAME)
        self.book.keep("b", ALIKE)
        self.book.keep("c", OTHER)
        self.book.post(Place(0, 9, 1))
        self.book.post(Place(0, 7, 2))
        self.book.claim("a", "b")
        self.book.claim("c", "a")
        self.book.call("b")
        return self.book


class Keeping(Books):
    def test_an_empty_book(self):
        self.assertEqual(told_state(self.book), ([], [], [], 0))

    def test_the_tree_by_keyword(self):
        self.assertEqual(told_state(Book(tree=tree_of(LINE))), ([], [], [], 0))

    def test_keep_and_row(self):
        self.assertIsNone(self.book.keep("a", SAME))
        found = self.book.row("a")
        self.assertIs(type(found), Row)
        self.assertEqual(found, Row(tree_of(LINE), SAME))
        self.assertEqual(self.book.names(), ["a"])
        self.assertEqual(self.book.many(), 1)

    def test_a_row_without_marches(self):
        self.book.keep("a", ())
        self.assertEqual(self.book.row("a"), Row(tree_of(LINE), []))
        self.assertEqual(self.book.many(), 1)

    def test_goals_are_kept_as_they_were_passed(self):
        book = Book(tree_of(FORK))
        book.keep("a", [march_of(2, 4, 1), march_of(1, 0, 1)])
        self.assertEqual([told(march.goal) for march in book.row("a").marches], [(2, 4), (1, 0)])

    def test_names_in_ascending_order(self):
        for name in ["m", "b", "z", "a1", "a", "b0"]:
            self.book.keep(name, OTHER)
        self.assertEqual(self.book.names(), ["a", "a1", "b", "b0", "m", "z"])

    def test_valid_names(self):
        for name in VALID:
            book = Book(tree_of(LINE))
            book.keep(name, OTHER)
            self.assertEqual(book.names(), [name])

    def test_invalid_names(self):
        for name in INVALID:
            self.unchanged(NoName, {"name": name}, self.book.keep, name, OTHER)
        self.filled()
        for name in INVALID:
            self.unchanged(NoName, {"name": name}, self.book.keep, name, OTHER)

    def test_every_character_in_a_name(self):
        for code in range(32, 127):
            mark = chr(code)
            for name, fine in [(mark, mark.islower()), ("a" + mark, mark.islower() or mark.isdigit()),
                               ("abcdefg" + mark, mark.islower() or mark.isdigit())]:
                if fine:
                    Book(tree_of(LINE)).keep(name, OTHER)
                else:
                    self.unchanged(NoName, {"name": name}, self.book.keep, name, OTHER)

    def test_eight_rows_and_no_ninth(self):
        for at in range(8):
            self.book.keep(f"r{at}", [march_of(0, at, 1)])
        self.unchanged(BadCount, {"what": "rows", "count": 9}, self.book.keep, "r8", OTHER)
        self.assertEqual(self.book.names(), [f"r{at}" for at in range(8)])
        self.book.keep("r3", OTHER)
        self.assertEqual(self.book.row("r3"), Row(tree_of(LINE), OTHER))
        self.assertEqual(self.book.many(), 9)
        self.book.drop("r0")
        self.book.keep("r8", OTHER)
        self.assertEqual(self.book.names(), [f"r{at}" for at in range(1, 9)])

    def test_the_order_of_errors(self):
        for at in range(8):
            self.book.keep(f"r{at}", [march_of(0, at, 1)])
        bad = [March(Place(9, 0, 1), 0)]
        for marches in (bad, bad * 25, OTHER):
            self.unchanged(NoName, {"name": "R"}, self.book.keep, "R", marches)
            self.unchanged(BadCount, {"what": "rows", "count": 9}, self.book.keep, "r8", marches)
        self.unchanged(NoRoad, {"road": 9}, self.book.keep, "r0", bad)
        self.unchanged(BadCount, {"what": "marches", "count": 25}, self.book.keep, "r0", bad * 25)

    def test_the_errors_of_the_row(self):
        self.filled()
        for name in ("a", "d"):
            for marches, error, fields in [
                ([march_of(0, 1, 1)] * 25, BadCount, {"what": "marches", "count": 25}),
                ([march_of(0, 1, 1), march_of(1, 0, 1)], NoRoad, {"road": 1}),
                ([march_of(0, 11, 1)], OffRoad, {"road": 0}),
                ([march_of(0, 1, 1), March(Place(0, 1, 2), 1)], NotWhole, {"march": 1}),
                ([march_of(0, 1, 0)], BadCount, {"what": "steps", "count": 0}),
            ]:
                self.unchanged(error, fields, self.book.keep, name, marches)

    def test_replacing(self):
        self.book.keep("a", SAME)
        self.book.keep("a", ALIKE)
        self.assertEqual(self.book.row("a"), Row(tree_of(LINE), ALIKE))
        self.assertEqual((self.book.names(), self.book.many()), (["a"], 2))

    def test_storing_an_equal_row_changes_nothing(self):
        self.book.keep("a", SAME)
        self.book.keep("a", list(SAME))
        self.book.keep("a", tuple(SAME))
        self.assertEqual(self.book.many(), 1)
        book = Book(tree_of(FORK))
        book.keep("a", [march_of(2, 4, 1)])
        book.keep("a", [march_of(0, 0, 1)])
        self.assertEqual(told_state(book), ([("a", [((2, 4), 1)])], [], [], 1))

    def test_drop(self):
        self.filled()
        self.assertIsNone(self.book.drop("b"))
        self.assertEqual(self.book.names(), ["a", "c"])
        self.assertEqual(self.book.many(), 9)
        self.unchanged(NoRow, {"name": "b"}, self.book.drop, "b")
        self.unchanged(NoRow, {"name": "b"}, self.book.row, "b")

    def test_names_that_are_not_in_use(self):
        for name in INVALID + ["x", "abcdefgh"]:
            for action in (self.book.drop, self.book.row, self.book.call):
                self.unchanged(NoRow, {"name": name}, action, name)
        self.filled()
        for name in INVALID + ["x", "abcdefgh"]:
            for action in (self.book.drop, self.book.row, self.book.call):
                self.unchanged(NoRow, {"name": name}, action, name)


class People(Books):
    def test_post_and_where(self):
        book = Book(tree_of(FORK))
        self.assertEqual(book.post(Place(2, 4, 1)), 0)
        self.assertEqual(book.post(Place(1, 2, 4)), 1)
        self.assertEqual(book.post(Place(0, 0, 1)), 2)
        self.assertEqual([told(place) for place in book.where()], [(0, 0), (1, Fraction(1, 2)), (0, 0)])
        self.assertEqual(book.many(), 3)

    def test_24_people_and_no_more(self):
        for number in range(24):
            self.assertEqual(self.book.post(Place(0, number % 11, 1)), number)
        self.unchanged(BadCount, {"what": "folk", "count": 25}, self.book.post, Place(0, 1, 1))
        self.unchanged(NoRoad, {"road": 1}, self.book.post, Place(1, 1, 1))
        self.unchanged(OffRoad, {"road": 0}, self.book.post, Place(0, -1, 1))
        self.book.back()
        self.assertEqual(self.book.post(Place(0, 5, 1)), 23)
        self.assertEqual(told(self.book.where()[23]), (0, 5))

    def test_places_that_the_tree_does_not_have(self):
        self.filled()
        for road in (-1, 1, 10 ** 30):
            self.unchanged(NoRoad, {"road": road}, self.book.post, Place(road, -1, 1))
        for place in (Place(0, -1, 3), Place(0, 11, 1), Place(0, 21, 2)):
            self.unchanged(OffRoad, {"road": 0}, self.book.post, place)

    def test_call(self):
        self.book.keep("a", SAME)
        self.book.keep("b", OTHER)
        for place in (Place(0, 9, 1), Place(0, 7, 2), Place(0, 0, 1)):
            self.book.post(place)
        self.assertIsNone(self.book.call("a"))
        self.assertEqual([told(place) for place in self.book.where()], [(0, 7), (0, Fraction(3, 2)), (0, 0)])
        self.book.call("b")
        self.assertEqual([told(place) for place in self.book.where()], [(0, 10), (0, Fraction(9, 2)), (0, 3)])
        self.assertEqual(self.book.many(), 7)

    def test_a_call_that_moves_nobody_changes_nothing(self):
        self.book.keep("a", SAME)
        self.book.keep("n", [])
        self.book.keep("r", [march_of(0, 10, 3), march_of(0, 0, 3)])
        self.book.call("a")
        self.assertEqual(self.book.many(), 3)
        self.book.post(Place(0, 0, 1))
        self.book.call("a")
        self.book.call("n")
        self.book.call("r")
        self.assertEqual(self.book.many(), 4)
        self.book.post(Place(0, 9, 1))
        self.book.call("n")
        self.assertEqual(self.book.many(), 5)
        self.book.call("a")
        self.assertEqual(self.book.many(), 6)

    def test_people_stay_where_they_are_when_rows_change(self):
        self.filled()
        before = [told(place) for place in self.book.where()]
        self.book.drop("b")
        self.book.keep("a", OTHER)
        self.assertEqual([told(place) for place in self.book.where()], before)


class Claims(Books):
    def setUp(self):
        Books.setUp(self)
        for name, marches in [("b", SAME), ("a", ALIKE), ("d", OTHER), ("c", list(SAME))]:
            self.book.keep(name, marches)

    def test_rows_that_are_alike(self):
        self.assertIs(self.book.claim("a", "b"), True)
        self.assertEqual(self.book.claims(), [("a", "b", True)])

    def test_rows_that_are_equal(self):
        self.assertIs(self.book.claim("c", "b"), True)
        self.assertEqual(self.book.claims(), [("b", "c", True)])

    def test_rows_that_are_not_alike(self):
        self.assertIs(self.book.claim("d", "a"), False)
        self.assertEqual(self.book.claims(), [("a", "d", False)])

    def test_both_ways(self):
        self.assertIs(self.book.claim("d", "a"), False)
        self.assertEqual(self.book.many(), 5)
        self.assertIs(self.book.claim("a", "d"), False)
        self.assertIs(self.book.claim("d", "a"), False)
        self.assertEqual((self.book.claims(), self.book.many()), ([("a", "d", False)], 5))
        self.assertIs(self.book.claim("a", "b"), True)
        self.assertIs(self.book.claim("b", "a"), True)
        self.assertEqual((self.book.claims(), self.book.many()), ([("a", "b", True), ("a", "d", False)], 6))

    def test_a_row_with_itself(self):
        self.assertIs(self.book.claim("d", "d"), True)
        self.assertIs(self.book.claim("d", "d"), True)
        self.assertEqual((self.book.claims(), self.book.many()), ([("d", "d", True)], 5))

    def test_claims_are_sorted_with_the_smaller_name_first(self):
        for name, other in [("d", "c"), ("c", "a"), ("b", "b"), ("d", "a"), ("b", "a"), ("d", "d")]:
            self.book.claim(name, other)
        self.assertEqual(self.book.claims(), [
            ("a", "b", True), ("a", "c", True), ("a", "d", False), ("b", "b", True), ("c", "d", False), ("d", "d", True),
        ])
        self.assertEqual({type(claim) for claim in self.book.claims()}, {tuple})

    def test_rows_that_are_not_there(self):
        self.book.claim("a", "b")
        for name in ("x", "", "A"):
            self.unchanged(NoRow, {"name": name}, self.book.claim, name, "a")
            self.unchanged(NoRow, {"name": name}, self.book.claim, "a", name)
            self.unchanged(NoRow, {"name": name}, self.book.claim, name, name)
            self.unchanged(NoRow, {"name": name}, self.book.claim, name, "y")
            self.unchanged(NoRow, {"name": "y"}, self.book.claim, "y", name)

    def test_rows_that_are_too_wide(self):
        self.book = Book(tree_of(STAR))
        self.book.keep("wide", [march_of(*march) for march in tip_marches(EXACTLY_401)])
        self.book.keep("fine", [march_of(*march) for march in tip_marches(EXACTLY_400)])
        for name, other in [("wide", "fine"), ("fine", "wide"), ("wide", "wide")]:
            self.unchanged(Wide, {"count": 401}, self.book.claim, name, other)
        self.unchanged(NoRow, {"name": "x"}, self.book.claim, "wide", "x")
        self.assertIs(self.book.claim("fine", "fine"), True)

    def claimed(self):
        for name, other in [("a", "b"), ("b", "c"), ("a", "d"), ("d", "d"), ("c", "c")]:
            self.book.claim(name, other)

    def test_a_row_that_is_dropped(self):
        self.claimed()
        self.book.drop("a")
        self.assertEqual(self.book.claims(), [("b", "c", True), ("c", "c", True), ("d", "d", True)])
        self.book.drop("d")
        self.assertEqual(self.book.claims(), [("b", "c", True), ("c", "c", True)])
        self.book.keep("a", ALIKE)
        self.assertEqual(self.book.claims(), [("b", "c", True), ("c", "c", True)])

    def test_a_row_that_is_replaced_by_an_equal_row(self):
        self.claimed()
        before = told_state(self.book)
        for name, marches in [("a", ALIKE), ("b", SAME), ("c", SAME), ("d", OTHER)]:
            self.book.keep(name, tuple(marches))
        self.assertEqual(told_state(self.book), before)

    def test_a_row_that_is_replaced_by_an_alike_but_unequal_row(self):
        self.claimed()
        self.book.keep("b", ALIKE)
        self.assertEqual(self.book.claims(), [("a", "d", False), ("c", "c", True), ("d", "d", True)])
        self.book.keep("d", OTHER + [march_of(0, 10, 1), march_of(0, 10, 1)])
        self.assertEqual(self.book.claims(), [("c", "c", True)])

    def test_a_row_that_is_replaced_by_another_row(self):
        self.claimed()
        self.book.keep("c", OTHER)
        self.assertEqual(self.book.claims(), [("a", "b", True), ("a", "d", False), ("d", "d", True)])
        self.assertIs(self.book.claim("d", "c"), True)

    def test_a_row_that_is_replaced_after_a_new_one_came(self):
        self.claimed()
        self.book.keep("e", OTHER)
        self.assertEqual(len(self.book.claims()), 5)
        self.assertIs(self.book.claim("e", "d"), True)
        self.assertEqual(len(self.book.claims()), 6)


class Back(Books):
    def test_nothing_to_undo(self):
        self.unchanged(NoBack, {}, self.book.back)
        self.book.keep("a", SAME)
        self.assertIsNone(self.book.back())
        self.unchanged(NoBack, {}, self.book.back)
        self.assertEqual(told_state(self.book), ([], [], [], 0))

    def test_after_each_kind_of_change(self):
        self.filled()
        changes = [
            lambda: self.book.keep("d", OTHER), lambda: self.book.keep("a", OTHER), lambda: self.book.drop("a"),
            lambda: self.book.post(Place(0, 1, 1)), lambda: self.book.call("c"), lambda: self.book.claim("b", "c"),
            lambda: self.book.keep("b", SAME),
        ]
        for change in changes:
            before = told_state(self.book)
            change()
            self.assertNotEqual(told_state(self.book), before)
            self.assertEqual(self.book.many(), before[-1] + 1)
            self.book.back()
            self.assertEqual(told_state(self.book), before)

    def test_after_calls_that_changed_nothing(self):
        self.filled()
        self.book.keep("n", [])
        before = told_state(self.book)
        self.book.keep("a", SAME)
        self.book.claim("b", "a")
        self.book.claim("a", "c")
        self.book.call("n")
        for action, args in [(self.book.drop, ["x"]), (self.book.post, [Place(3, 0, 1)]), (self.book.keep, ["A", []])]:
            with self.assertRaises(TrainError):
                action(*args)
        for action in (self.book.names, self.book.where, self.book.claims, self.book.many):
            action()
        self.book.row("a")
        self.assertEqual(told_state(self.book), before)
        self.book.back()
        self.assertEqual(self.book.names(), ["a", "b", "c"])

    def test_back_to_the_beginning_and_once_more(self):
        states = [told_state(self.book)]
        for change in [
            lambda: self.book.keep("a", SAME), lambda: self.book.keep("b", ALIKE), lambda: self.book.post(Place(0, 9, 1)),
            lambda: self.book.claim("a", "b"), lambda: self.book.call("a"), lambda: self.book.call("a"),
            lambda: self.book.keep("a", OTHER), lambda: self.book.claim("a", "b"), lambda: self.book.drop("b"),
            lambda: self.book.post(Place(0, 1, 2)), lambda: self.book.call("a"), lambda: self.book.drop("a"),
        ]:
            change()
            self.assertEqual(told_state(self.book)[-1], len(states))
            states.append(told_state(self.book))
        for state in reversed(states):
            self.assertEqual(told_state(self.book), state)
            if state[-1]:
                self.book.back()
        for _ in range(2):
            self.unchanged(NoBack, {}, self.book.back)

    def test_back_is_not_itself_undone(self):
        self.book.keep("a", SAME)
        self.book.keep("b", ALIKE)
        self.book.back()
        self.book.keep("c", OTHER)
        self.book.back()
        self.assertEqual(self.book.names(), ["a"])
        self.book.back()
        self.unchanged(NoBack, {}, self.book.back)

    def test_numbers_of_people_after_going_back(self):
        self.book.post(Place(0, 1, 1))
        self.book.post(Place(0, 2, 1))
        self.book.back()
        self.assertEqual(self.book.post(Place(0, 3, 1)), 1)
        self.assertEqual([told(place) for place in self.book.where()], [(0, 1), (0, 3)])

    def test_goals_as_they_were_stored(self):
        self.book = Book(tree_of(FORK))
        self.book.keep("a", [march_of(2, 4, 1)])
        self.book.keep("a", [march_of(0, 1, 1)])
        self.book.keep("a", [march_of(1, 0, 1)])
        self.book.back()
        self.book.back()
        self.assertEqual(told_state(self.book), ([("a", [((2, 4), 1)])], [], [], 1))

    def test_very_many_changes(self):
        self.book.keep("up", [march_of(0, 10, 1)])
        self.book.keep("down", [march_of(0, 0, 1)])
        self.book.post(Place(0, 5, 1))
        for _ in range(500):
            self.book.call("up")
            self.book.call("down")
        self.assertEqual(self.book.many(), 1003)
        for _ in range(999):
            self.book.back()
        self.assertEqual(self.book.many(), 4)
        self.assertEqual(told(self.book.where()[0]), (0, 6))


class Conventions(Books):
    def test_books_do_not_affect_one_another(self):
        tree = tree_of(LINE)
        self.book, other = Book(tree), Book(tree)
        self.filled()
        self.assertEqual(told_state(other), ([], [], [], 0))
        before = told_state(self.book)
        other.keep("a", OTHER)
        other.post(Place(0, 3, 1))
        other.call("a")
        other.back()
        self.assertEqual(told_state(self.book), before)
        self.refuses(NoRow, {"name": "b"}, other.row, "b")

    def test_lists_changed_after_they_were_passed(self):
        marches = list(SAME)
        self.book.keep("a", marches)
        marches.append(march_of(0, 3, 3))
        marches[0] = march_of(0, 7, 1)
        self.assertEqual(self.book.row("a"), Row(tree_of(LINE), SAME))

    def test_lists_changed_after_they_were_returned(self):
        self.filled()
        before = told_state(self.book)
        for action in (self.book.names, self.book.where, self.book.claims):
            found = action()
            self.assertIs(type(found), list)
            self.assertGreater(len(found), 1)
            found.pop()
            found[0] = None
            found.clear()
        self.assertEqual(told_state(self.book), before)
        self.book.post(Place(0, 1, 1))
        self.book.where().clear()
        self.book.back()
        self.assertEqual(told_state(self.book), before)

    def test_each_call_returns_an_equal_result(self):
        self.filled()
        for action in (self.book.names, self.book.where, self.book.claims, self.book.many):
            self.assertEqual(action(), action())
        self.assertEqual(self.book.row("a"), self.book.row("a"))

    def test_by_keyword(self):
        self.book.keep(marches=SAME, name="a")
        self.book.keep("b", marches=ALIKE)
        self.assertEqual(self.book.post(place=Place(0, 9, 1)), 0)
        self.book.call(name="a")
        self.assertEqual(self.book.row(name="a"), Row(tree_of(LINE), SAME))
        self.assertIs(self.book.claim(other="b", name="a"), True)
        self.book.drop(name="b")
        self.assertEqual(told_state(self.book), ([("a", [((0, 0), 1)] * 2)], [(0, 7)], [], 6))

    def test_each_method_stands_in_the_class_itself(self):
        for name in "keep drop row names post call where claim claims many back".split():
            self.assertIn(name, vars(Book))


class Model:
    """A second book of plain values, which walks on a net; every state is a copy of its own."""

    def __init__(self, roads):
        self.net = Net(len(roads) + 1, roads, 2)
        self.roads = roads
        self.states = [({}, [], {})]

    def change(self, rows, folk, claims):
        if (rows, folk, claims) != self.states[-1]:
            self.states.append((rows, folk, claims))

    def keyed(self, marches):
        return [(self.net.of(road, Fraction(number)), steps) for road, number, steps in marches]

    def keep(self, name, marches):
        rows, folk, claims = self.states[-1]
        if name not in rows and len(rows) == 8:
            return "refused badcount"
        if name not in rows or self.keyed(rows[name]) != self.keyed(marches):
            claims = {pair: result for pair, result in claims.items() if name not in pair}
            self.change({**rows, name: marches}, folk, claims)
        return None

    def drop(self, name):
        rows, folk, claims = self.states[-1]
        if name not in rows:
            return "refused norow"
        self.change({one: rows[one] for one in rows if one != name}, folk,
                    {pair: result for pair, result in claims.items() if name not in pair})
        return None

    def post(self, name):
        rows, folk, claims = self.states[-1]
        if len(folk) == 24:
            return "refused badcount"
        self.change(rows, folk + [self.net.of(*name)], claims)
        return len(folk)

    def call(self, name):
        rows, folk, claims = self.states[-1]
        if name not in rows:
            return "refused norow"
        images = self.net.images(rows[name])
        self.change(rows, [images[spot] for spot in folk], claims)
        return None

    def claim(self, name, other):
        rows, folk, claims = self.states[-1]
        if name not in rows or other not in rows:
            return "refused norow"
        result = self.net.images(rows[name]) == self.net.images(rows[other])
        self.change(rows, folk, {**claims, tuple(sorted((name, other))): result})
        return result

    def back(self):
        if len(self.states) == 1:
            return "refused noback"
        self.states.pop()
        return None

    def told(self):
        rows, folk, claims = self.states[-1]
        return (
            [(name, [((road, number), steps) for road, number, steps in rows[name]]) for name in sorted(rows)],
            [self.net.names[spot] for spot in folk],
            sorted((*pair, result) for pair, result in claims.items()),
            len(self.states) - 1,
        )


class AgainstAModel(unittest.TestCase):
    """Long uses, compared with a second book."""

    def use(self, choices, roads, rows, names):
        """One random action, as its name and its arguments, for the book and for the model."""
        kind = choices.below(12)
        name, other = names[choices.below(len(names))], names[choices.below(len(names))]
        if kind < 3:
            marches = rows[choices.below(len(rows))]
            return ("keep", [name, [march_of(*march) for march in marches]], [name, marches])
        if kind < 5:
            road = choices.below(len(roads))
            where = Fraction(choices.below(2 * roads[road][2] + 1), 2)
            return ("post", [Place(road, where.numerator, where.denominator)], [(road, where)])
        if kind < 7:
            return ("call", [name], [name])
        if kind < 10:
            return ("claim", [name, other], [name, other])
        return ("drop", [name], [name]) if kind == 10 else ("back", [], [])

    def answer(self, action, args):
        try:
            return action(*args)
        except TrainError as error:
            return error.told()

    def test_many_uses(self):
        answers = []
        for seed in range(20):
            choices = Choices(11000 + seed)
            roads = choices.roads(2 + choices.below(4), 3)
            rows = [choices.marches(roads, choices.below(3), 2) for _ in range(5)]
            # Some rows that are alike and not equal, and some that are equal but for how a crossing is given.
            rows += [marches + marches[-1:] for marches in rows]
            rows += [[(road, number, 1)] for road, one in enumerate(roads) for number in (0, one[2])]
            names = ["a", "b", "c", "d1", "e", "f", "g", "h", "i", "j"][:4 + 3 * (seed % 3)]
            book, model = Book(tree_of(roads)), Model(roads)
            for _ in range(160):
                action, args, plain_args = self.use(choices, roads, rows, names)
                answer = self.answer(getattr(book, action), args)
                self.assertEqual(answer, getattr(model, action)(*plain_args))
                self.assertEqual(told_state(book), model.told())
                answers.append((action, answer if isinstance(answer, (str, bool)) else None))
        for action, answer in [("claim", True), ("claim", False), ("claim", "refused norow"), ("drop", "refused norow"),
                               ("back", "refused noback"), ("keep", "refused badcount"), ("post", "refused badcount")]:
            self.assertIn((action, answer), answers)


if __name__ == "__main__":
    unittest.main()
