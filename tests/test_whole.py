"""[1], [2] and what several promises say of the same rows, over the whole program."""

import unittest
from fractions import Fraction

from asking import Asking, place_of, plain, row_of, told, tree_of
from oracle import Choices, Net
from rounds import any_rows, carrying_rows

from onetrain.alike import Alike, Parted, held
from onetrain.backs import Piece, back
from onetrain.book import Book
from onetrain.desk import Desk
from onetrain.doings import Stretch, doing, is_doing
from onetrain.errors import BadText, TrainError
from onetrain.fates import far, fate, meet
from onetrain.marches import March, Row, after
from onetrain.places import Place, corner, distance, key, step
from onetrain.rowtexts import place_text, read_row, read_tree, row_text, tree_rows
from onetrain.settling import fewest, settled
from onetrain.trains import Train, is_train, train
from onetrain.trees import Road, Tree

FORK = [(0, 1, 3), (0, 2, 2), (3, 0, 4)]


def rows_of_all_kinds(seed, many):
    return any_rows(seed, many) + carrying_rows(seed + 1, many // 2) + carrying_rows(seed + 2, many // 3, turned=True)


def length_between(tree, one, other):
    return Fraction(*distance(tree, one, other))


def places_of(roads, parts):
    """All places of a tree at a scale, by all the names that a crossing has."""
    return [Place(road, at, parts) for road, one in enumerate(roads) for at in range(one[2] * parts + 1)]


def in_train(row, found, place):
    """Whether a place lies between the ends of a train."""
    size = length_between(row.tree, found.one, found.other)
    return length_between(row.tree, found.one, place) + length_between(row.tree, place, found.other) == size


class Facts(unittest.TestCase):
    """The two facts of [6] and those of [11] and [13], on the same rows."""

    def setUp(self):
        self.cases = [(roads, row_of(roads, marches)) for roads, marches in rows_of_all_kinds(14000, 24)]

    def test_no_distance_increases(self):
        for roads, row in self.cases:
            places = places_of(roads, 2)[::3]
            images = [after(row, place) for place in places]
            for one, one_image in zip(places, images):
                for other, other_image in zip(places, images):
                    before = length_between(row.tree, one, other)
                    self.assertLessEqual(length_between(row.tree, one_image, other_image), before)

    def test_whole_places_tell_where_those_between_are_moved(self):
        for roads, row in self.cases:
            for road, (_, _, length) in enumerate(roads):
                for number in range(length):
                    start, end = (after(row, Place(road, at, 1)) for at in (number, number + 1))
                    between = after(row, Place(road, 3 * number + 1, 3))
                    size = length_between(row.tree, start, end)
                    self.assertIn(size, (0, 1))
                    self.assertEqual(length_between(row.tree, start, between), size / 3)
                    self.assertEqual(length_between(row.tree, between, end), size * 2 / 3)

    def test_two_rounds_leave_the_train_in_place_and_nothing_else(self):
        for roads, row in self.cases:
            found = train(row)
            for place in places_of(roads, 2):
                stays = after(row, place, rounds=2) == key(row.tree, place)
                self.assertIs(stays, in_train(row, found, place))

    def test_a_round_leaves_the_train_in_place_or_reverses_it(self):
        for roads, row in self.cases:
            found = train(row)
            for place in places_of(roads, 2):
                if in_train(row, found, place):
                    there = after(row, place)
                    end = found.other if found.is_turned else found.one
                    self.assertEqual(distance(row.tree, end, there), distance(row.tree, found.one, place))

    def test_in_the_train_after_the_tail_and_not_one_round_earlier(self):
        for roads, row in self.cases:
            found = train(row)
            for place in places_of(roads, 2)[::2]:
                tail, ring = fate(row, place)
                self.assertTrue(in_train(row, found, far(row, place, tail)))
                if tail:
                    self.assertFalse(in_train(row, found, far(row, place, tail - 1)))
                there = far(row, place, tail)
                self.assertEqual([after(row, there, rounds=rounds) == there for rounds in (1, 2)], [ring == 1, True])

    def test_far_agrees_with_after(self):
        for roads, row in self.cases:
            for place in places_of(roads, 3)[::7]:
                for rounds in (0, 1, 2, 5, 1000):
                    self.assertEqual(far(row, place, rounds), after(row, place, rounds=rounds))

    def test_meet_agrees_with_far(self):
        for roads, row in self.cases:
            places = places_of(roads, 2)[::5]
            for one, other in zip(places, places[1:]):
                rounds = meet(row, one, other)
                if rounds is None:
                    for many in (0, 1, 7, 10 ** 30):
                        self.assertNotEqual(far(row, one, many), far(row, other, many))
                else:
                    self.assertEqual(far(row, one, rounds), far(row, other, rounds))
                    if rounds:
                        self.assertNotEqual(far(row, one, rounds - 1), far(row, other, rounds - 1))

    def test_settled_is_the_largest_tail(self):
        for roads, row in self.cases:
            self.assertEqual(settled(row), max(fate(row, place)[0] for place in places_of(roads, 2)))

    def test_back_and_doing_agree_with_after(self):
        for roads, row in self.cases:
            self.assertIs(is_doing(row, doing(row)), True)
            for place in places_of(roads, 2)[::4]:
                image = after(row, place)
                where = Fraction(place.number, place.parts)
                self.assertTrue(any(
                    piece.road == place.road and piece.least <= where * piece.parts <= piece.greatest
                    for piece in back(row, image)
                ))

    def test_fewest_gathers_everyone(self):
        for roads, row in self.cases:
            if sum(length for _, _, length in roads) <= 30 and len(row.marches) <= 6:
                gathering = Row(row.tree, [row.marches[at] for at in fewest(row.tree, row.marches)])
                images = {told(after(gathering, place)) for place in places_of(roads, 2)}
                self.assertEqual(len(images), 1)


class AlikeRows(unittest.TestCase):
    """Two rows that `held` finds alike have everything else in common."""

    def pairs(self):
        for at, (roads, marches) in enumerate(rows_of_all_kinds(14100, 30)):
            choices = Choices(14200 + at)
            index = choices.below(len(marches))
            road, number, steps = marches[index]
            split = [(road, number, 1), (road, number, steps - 1)][:min(steps, 2)]
            yield roads, marches, marches[:index] + split + marches[index + 1:]
            yield roads, marches, marches[:index] + [(road, number, steps + 40)] + marches[index + 1:]
            yield roads, marches, [march for march in marches for _ in range(2)]

    def test_all_that_they_have_in_common(self):
        answers = []
        for roads, marches, others in self.pairs():
            row, other = row_of(roads, marches), row_of(roads, others)
            alike = held(row, other) == Alike()
            answers.append(alike)
            self.assertIs(doing(row) == doing(other), alike)
            self.assertIs(is_doing(row, doing(other)), alike)
            if alike:
                one, two = train(row), train(other)
                self.assertEqual((one.one, one.other, one.is_turned), (two.one, two.other, two.is_turned))
                self.assertEqual(settled(row), settled(other))
                places = places_of(roads, 2)[::3]
                for place, second in zip(places, places[1:] + places[:1]):
                    self.assertEqual(back(row, place), back(other, place))
                    self.assertEqual(fate(row, place), fate(other, place))
                    self.assertEqual(far(row, place, 7), far(other, place, 7))
                    self.assertEqual(meet(row, place, second), meet(other, place, second))
        self.assertGreater(answers.count(True), 40)
        self.assertGreater(answers.count(False), 40)


class Renamed(unittest.TestCase):
    """The same tree with its crossings renamed, its roads reordered and reversed gives the same positions."""

    def renamed(self, choices, roads):
        """Other roads, and for each old road its new number and whether it was reversed."""
        names = choices.shuffled(range(len(roads) + 1))
        order = choices.shuffled(range(len(roads)))
        found = []
        change = {}
        for number, road in enumerate(order):
            a, b, length = roads[road]
            reverse = choices.below(2) == 1
            found.append((names[b], names[a], length) if reverse else (names[a], names[b], length))
            change[road] = (number, reverse)
        return found, change

    def test_the_same_positions(self):
        for at, (roads, marches) in enumerate(rows_of_all_kinds(14300, 24)):
            choices = Choices(14400 + at)
            others, change = self.renamed(choices, roads)

            def moved(place):
                number, reverse = change[place.road]
                return Place(number, roads[place.road][2] * place.parts - place.number if reverse else place.number, place.parts)

            row = row_of(roads, marches)
            tree = tree_of(others)
            other = Row(tree, [March(moved(march.goal), march.steps) for march in row.marches])

            def same(place, second):
                self.assertEqual(told(key(tree, moved(place))), told(second))

            places = places_of(roads, 2)
            for place, second in zip(places, places[3:]):
                same(after(row, place), after(other, moved(place)))
                same(far(row, place, 10 ** 30), far(other, moved(place), 10 ** 30))
                self.assertEqual(fate(row, place), fate(other, moved(place)))
                self.assertEqual(meet(row, place, second), meet(other, moved(place), moved(second)))
                self.assertEqual(distance(row.tree, place, second), distance(tree, moved(place), moved(second)))
                pieces = {(piece.road, piece.least, piece.greatest, piece.parts) for piece in back(other, moved(place))}
                self.assertEqual(pieces, {self.moved_piece(piece, change, roads) for piece in back(row, place)})
            ours, theirs = train(row), train(other)
            ends = {told(key(tree, moved(end))) for end in (ours.one, ours.other)}
            self.assertEqual(ends, {told(theirs.one), told(theirs.other)})
            self.assertEqual((ours.is_turned, settled(row)), (theirs.is_turned, settled(other)))
            self.assertEqual(len(doing(row)), len(doing(other)))
            if sum(length for _, _, length in roads) <= 30 and len(marches) <= 6:
                self.assertEqual(len(fewest(row.tree, row.marches)), len(fewest(tree, other.marches)))

    def moved_piece(self, piece, change, roads):
        number, reverse = change[piece.road]
        length = roads[piece.road][2] * piece.parts
        ends = (length - piece.greatest, length - piece.least) if reverse else (piece.least, piece.greatest)
        return (number, *ends, piece.parts)


def every_call():
    """Each function and each method of the interface with its arguments by keyword, on values made anew."""
    tree = tree_of(FORK)
    marches = [March(Place(0, 3, 1), 2), March(Place(2, 0, 1), 2)]
    row, other = Row(tree, marches), Row(tree, marches + marches[:1])
    place, goal = Place(1, 1, 1), Place(2, 4, 1)
    book, desk = Book(tree=tree), Desk(tree=tree)
    calls = [
        (key, {"tree": tree, "place": goal}), (corner, {"tree": tree, "crossing": 3}),
        (distance, {"tree": tree, "one": place, "other": goal}),
        (step, {"tree": tree, "place": place, "goal": goal, "steps": 1}),
        (after, {"row": row, "place": place, "rounds": 2}), (doing, {"row": row}),
        (is_doing, {"row": row, "stretches": doing(row)}), (held, {"row": row, "other": other}),
        (back, {"row": row, "place": goal}), (train, {"row": row}), (is_train, {"row": row, "paper": train(row)}),
        (fate, {"row": row, "place": place}), (far, {"row": row, "place": place, "rounds": 10 ** 30}),
        (meet, {"row": row, "one": place, "other": goal}), (settled, {"row": row}),
        (fewest, {"tree": tree, "marches": marches}), (tree_rows, {"tree": tree}), (read_tree, {"rows": tree_rows(tree)}),
        (place_text, {"place": goal}), (row_text, {"row": row}), (read_row, {"tree": tree, "text": "2:4 1"}),
        (Road, {"a": 0, "b": 1, "length": 2}), (Tree, {"crossings": 2, "roads": [Road(0, 1, 2)]}),
        (Place, {"road": 0, "number": 2, "parts": 4}), (March, {"goal": goal, "steps": 1}),
        (Row, {"tree": tree, "marches": marches}), (Piece, {"road": 0, "least": 1, "greatest": 2, "parts": 3}),
        (Stretch, {"road": 0, "least": 1, "greatest": 2, "first": place, "last": goal}), (Alike, {}),
        (Parted, {"place": place, "ours": goal, "theirs": place}),
        (Train, {"one": place, "other": goal, "is_turned": True, "stands": [(place, goal)]}),
        (book.keep, {"name": "a", "marches": marches}), (book.post, {"place": place}), (book.call, {"name": "a"}),
        (book.row, {"name": "a"}), (book.claim, {"name": "a", "other": "a"}), (book.drop, {"name": "a"}), (book.back, {}),
        (book.names, {}), (book.where, {}), (book.claims, {}), (book.many, {}),
        (desk.tell, {"row": "keep a 2:4 1"}), (desk.tell, {"row": "row a"}),
    ]
    return calls


def told_deeply(value):
    """A value with all objects as plain values; lists and tuples are told apart."""
    if isinstance(value, (list, tuple)):
        return (type(value).__name__, [told_deeply(one) for one in value])
    if isinstance(value, dict):
        return [(told_deeply(name), told_deeply(one)) for name, one in value.items()]
    if hasattr(value, "__dict__") and not callable(value):
        return (type(value).__name__, told_deeply(vars(value)))
    return value


class Calls(Asking, unittest.TestCase):
    def test_arguments_by_keyword_and_by_position(self):
        by_keyword = [told_deeply(action(**arguments)) for action, arguments in every_call()]
        by_position = []
        for action, arguments in every_call():
            rounds = {"rounds": arguments.pop("rounds")} if action is after else {}
            by_position.append(told_deeply(action(*arguments.values(), **rounds)))
        self.assertEqual(by_keyword, by_position)

    def test_keywords_in_any_order(self):
        in_order = [told_deeply(action(**arguments)) for action, arguments in every_call()]
        turned = [told_deeply(action(**dict(reversed(arguments.items())))) for action, arguments in every_call()]
        self.assertEqual(in_order, turned)

    def test_equal_arguments_give_equal_results(self):
        results = [[told_deeply(action(**arguments)) for action, arguments in every_call()] for _ in range(3)]
        self.assertEqual(results[0], results[1])
        self.assertEqual(results[0], results[2])

    def test_no_argument_changes(self):
        for action, arguments in every_call():
            if not hasattr(action, "__self__"):
                before = told_deeply(arguments)
                action(**arguments)
                self.assertEqual(told_deeply(arguments), before)

    def test_lists_and_tuples_are_equal_arguments(self):
        as_lists, as_tuples = [], []
        for action, arguments in every_call():
            for found, kind in ((as_lists, list), (as_tuples, tuple)):
                if not hasattr(action, "__self__"):
                    given = {name: kind(one) if isinstance(one, list) else one for name, one in arguments.items()}
                    found.append(told_deeply(action(**given)))
        self.assertEqual(as_lists, as_tuples)

    def test_every_returned_list_is_new(self):
        for action, arguments in every_call():
            if action in (doing, back, fewest, tree_rows):
                found = action(**arguments)
                kept = told_deeply(found)
                self.assertIsNot(found, action(**arguments))
                found.clear()
                self.assertEqual(told_deeply(action(**arguments)), kept)

    def test_answers_are_true_or_false(self):
        row = row_of(FORK, [(0, 3, 2), (2, 0, 2)])
        for wrong, right in [(is_doing(row, []), is_doing(row, doing(row))),
                             (is_train(row, Train(Place(0, 0, 1), Place(0, 0, 1), False, [])), is_train(row, train(row)))]:
            self.assertIs(wrong, False)
            self.assertIs(right, True)

    def test_every_error_is_a_train_error_and_a_value_error(self):
        tree = tree_of(FORK)
        for action in (lambda: read_row(tree, "x"), lambda: Book(tree).back(), lambda: Tree(1, []), lambda: settled(Row(tree, []))):
            with self.assertRaises(TrainError) as caught:
                action()
            self.assertIsInstance(caught.exception, ValueError)
            self.assertEqual(type(caught.exception).__bases__, (TrainError,))
        self.refuses(BadText, {"place": 0}, read_row, tree, "x")


class SameEveryTime(unittest.TestCase):
    def test_stretches_and_pieces_twice(self):
        for roads, marches in rows_of_all_kinds(14500, 12):
            one, other = row_of(roads, marches), row_of(roads, marches)
            self.assertEqual(plain(doing(one)), plain(doing(other)))
            self.assertEqual(told_deeply(train(one)), told_deeply(train(other)))
            net = Net(len(roads) + 1, roads, 1)
            for name, _ in net.keys_in_order():
                self.assertEqual(told_deeply(back(one, place_of(name))), told_deeply(back(other, place_of(name))))
            if len(marches) <= 6 and sum(length for _, _, length in roads) <= 30:
                self.assertEqual(fewest(one.tree, one.marches), fewest(other.tree, list(other.marches)))


if __name__ == "__main__":
    unittest.main()
