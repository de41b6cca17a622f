"""[13]: what becomes of people when a row is repeated."""

import unittest
from fractions import Fraction

from asking import Asking, place_of, row_of, told, tree_of
from oracle import Choices, Net
from rounds import any_rows, carrying_rows, fate_of, meeting_of, train_spots
from wide import EXACTLY_400, EXACTLY_401, EXACTLY_630, GATHER, STAR, TWICE_401, tip_marches

from onetrain.errors import BadCount, NoRoad, OffRoad, Wide
from onetrain.fates import far, fate, meet
from onetrain.marches import after
from onetrain.places import Place

FORK = [(0, 1, 3), (0, 2, 2), (3, 0, 4)]
BEAM = [(0, 1, 10), (0, 2, 10), (0, 3, 10)]
TURNING = [(1, 10, 5), (2, 10, 6), (0, 10, 5)]
LINE = [(0, 1, 10)]
LONG = 10 ** 9
MOST = 10 ** 30
# Everyone moves one step a round towards the start of a very long road.
SLOW = row_of([(0, 1, LONG)], [(0, 0, 1)])
# Two arms lead into a third road, along which everyone moves on.
ARMS = row_of([(0, 1, LONG), (0, 2, LONG), (0, 3, LONG)], [(2, LONG, 1)])


def after_rounds(images, spot, rounds):
    for _ in range(rounds):
        spot = images[spot]
    return spot


class Fates(unittest.TestCase):
    def ends(self, row, place, tail, ring):
        found = fate(row, Place(*place))
        self.assertIs(type(found), tuple)
        self.assertEqual(found, (tail, ring))

    def test_in_the_train_already(self):
        self.ends(row_of(LINE, [(0, 0, 4), (0, 10, 4)]), (0, 7, 1), 0, 1)
        self.ends(row_of(LINE, [(0, 0, 4), (0, 10, 4)]), (0, 17, 3), 0, 1)
        self.ends(row_of(LINE, [(0, 4, 1)]), (0, 4, 1), 0, 1)

    def test_before_the_train(self):
        row = row_of(LINE, [(0, 0, 4), (0, 10, 4)])
        self.ends(row, (0, 3, 1), 1, 1)
        self.ends(row, (0, 11, 3), 1, 1)
        for number in range(11):
            self.ends(row_of(LINE, [(0, 4, 1)]), (0, number, 1), abs(number - 4), 1)

    def test_fractions_that_arrive_within_a_round(self):
        row = row_of(LINE, [(0, 4, 1)])
        self.ends(row, (0, 9, 2), 1, 1)
        self.ends(row, (0, 49, 10), 1, 1)
        self.ends(row, (0, 51, 10), 2, 1)
        self.ends(row, (0, 1, MOST), 4, 1)

    def test_a_train_that_is_reversed(self):
        row = row_of(BEAM, TURNING)
        for number in (0, 1, 3, 4):
            self.ends(row, (0, number, 1), 0, 2)
        self.ends(row, (0, 4, 3), 0, 2)
        self.ends(row, (0, 2, 1), 0, 1)
        images = Net(4, BEAM, 1).images(TURNING)
        self.ends(row, (0, 10, 1), *fate_of(images, ("crossing", 1)))

    def test_a_crossing_may_be_given_on_any_of_its_roads(self):
        row = row_of(BEAM, TURNING)
        for road in (0, 1, 2):
            self.ends(row, (road, 0, 1), 0, 2)

    def test_tails_of_2000_and_2001_rounds(self):
        self.ends(SLOW, (0, 1999, 1), 1999, 1)
        self.ends(SLOW, (0, 2000, 1), 2000, 1)
        self.ends(SLOW, (0, 3999, 2), 2000, 1)
        self.ends(SLOW, (0, 1999 * MOST + 1, MOST), 2000, 1)

    def test_by_keyword(self):
        self.assertEqual(fate(place=Place(0, 7, 1), row=row_of(LINE, [(0, 4, 1)])), (3, 1))


class Far(Asking, unittest.TestCase):
    def test_few_rounds(self):
        row = row_of(LINE, [(0, 4, 1)])
        for rounds, number in [(0, 9), (1, 8), (2, 7), (5, 4), (6, 4), (1000, 4), (2000, 4), (2001, 4), (MOST, 4)]:
            self.is_place(far(row, Place(0, 9, 1), rounds), 0, number)

    def test_a_train_that_is_reversed(self):
        row = row_of(BEAM, TURNING)
        for rounds in (0, 1, 2, 3, 1999, 2000, 2001, 2002, MOST - 1, MOST):
            odd = rounds % 2 == 1
            self.is_place(far(row, Place(0, 0, 1), rounds), 0, 4 if odd else 0)
            self.is_place(far(row, Place(0, 3, 1), rounds), 0, 1 if odd else 3)
            self.is_place(far(row, Place(0, 1, 3), rounds), 0, *((11, 3) if odd else (1, 3)))
            self.is_place(far(row, Place(0, 2, 1), rounds), 0, 2)

    def test_keys(self):
        for road in (0, 1, 2):
            for rounds in (0, 2, MOST):
                self.is_place(far(row_of(BEAM, TURNING), Place(road, 0, 1), rounds), 0, 0)
        self.is_place(far(row_of(FORK, [(1, 0, 1)]), Place(2, 1, 1), 3), 0, 0)
        self.is_place(far(row_of(FORK, [(1, 0, 1)]), Place(2, 1, 1), MOST), 0, 0)

    def test_a_tail_of_2000_rounds(self):
        for place in (Place(0, 2000, 1), Place(0, 1999 * MOST + 1, MOST)):
            for rounds in (2000, 2001, 10 ** 9, MOST):
                self.is_place(far(SLOW, place, rounds), 0, 0)
        self.is_place(far(SLOW, Place(0, 2000, 1), 1999), 0, 1)

    def test_a_longer_tail(self):
        for number in (2001, 2002, 10 ** 6, LONG):
            for rounds in (0, 1, 7, 1999, 2000):
                self.is_place(far(SLOW, Place(0, number, 1), rounds), 0, number - rounds)
            for rounds in (2001, 2002, 10 ** 9, MOST):
                self.refuses(Wide, {"count": 2001}, far, SLOW, Place(0, number, 1), rounds)
        just = Place(0, 2000 * MOST + 1, MOST)
        self.is_place(far(SLOW, just, 2000), 0, 1, MOST)
        self.refuses(Wide, {"count": 2001}, far, SLOW, just, 2001)

    def test_rounds_out_of_range(self):
        for row, place in [(SLOW, Place(0, 0, 1)), (SLOW, Place(0, LONG, 1)), (row_of(BEAM, TURNING), Place(0, 1, 3))]:
            for rounds in (-1, -MOST, MOST + 1, 10 ** 40):
                self.refuses(BadCount, {"what": "rounds", "count": rounds}, far, row, place, rounds)

    def test_by_keyword(self):
        self.is_place(far(rounds=2, place=Place(0, 9, 1), row=row_of(LINE, [(0, 4, 1)])), 0, 7)


class Meet(Asking, unittest.TestCase):
    def meets(self, row, one, other, expected):
        for first, second in ((one, other), (other, one)):
            found = meet(row, Place(*first), Place(*second))
            self.assertEqual(found, expected)
            self.assertIs(type(found), type(expected))

    def too_far(self, row, one, other):
        self.refuses(Wide, {"count": 2001}, meet, row, Place(*one), Place(*other))
        self.refuses(Wide, {"count": 2001}, meet, row, Place(*other), Place(*one))

    def test_at_once(self):
        self.meets(row_of(LINE, [(0, 4, 1)]), (0, 9, 1), (0, 9, 1), 0)
        self.meets(row_of(LINE, [(0, 4, 1)]), (0, 9, 2), (0, 9, 2), 0)
        self.meets(row_of(BEAM, TURNING), (0, 1, 1), (0, 1, 1), 0)
        self.meets(row_of(BEAM, TURNING), (1, 0, 1), (2, 0, 1), 0)
        self.meets(SLOW, (0, LONG, 1), (0, LONG, 1), 0)

    def test_after_some_rounds(self):
        row = row_of(LINE, [(0, 4, 1)])
        self.meets(row, (0, 3, 1), (0, 4, 1), 1)
        self.meets(row, (0, 9, 1), (0, 1, 1), 5)
        self.meets(row, (0, 9, 1), (0, 17, 2), 5)
        self.meets(row, (0, 49, 10), (0, 99, 20), 1)
        self.meets(row_of(LINE, [(0, 0, 4), (0, 10, 4)]), (0, 0, 1), (0, 4, 1), 1)

    def test_never(self):
        row = row_of(LINE, [(0, 0, 4), (0, 10, 4)])
        self.meets(row, (0, 4, 1), (0, 5, 1), None)
        self.meets(row, (0, 4, 1), (0, 4 * MOST + 1, MOST), None)
        self.meets(row, (0, 0, 1), (0, 9, 2), None)
        row = row_of(BEAM, TURNING)
        self.meets(row, (0, 1, 1), (0, 3, 1), None)
        self.meets(row, (0, 1, 1), (0, 2, 1), None)
        self.meets(row, (0, 1, 3), (0, 11, 3), None)

    def test_people_with_tails_of_2000_rounds(self):
        self.meets(SLOW, (0, 2000, 1), (0, 0, 1), 2000)
        self.meets(SLOW, (0, 2000, 1), (0, 1999, 1), 2000)
        self.meets(SLOW, (0, 2000, 1), (0, 1999 * MOST + 1, MOST), 2000)
        still = row_of([(0, 1, LONG)], [(0, 0, 7), (0, LONG, 6)])
        self.meets(still, (0, 2006, 1), (0, 2005, 1), 2000)

    def test_people_with_tails_of_2000_rounds_who_never_meet(self):
        # The train has all of road 1; people on road 2 come 10 steps nearer in each round.
        row = row_of([(0, 1, LONG), (0, 2, LONG), (0, 3, LONG)], [(0, LONG, 5), (1, LONG, 5)])
        self.meets(row, (2, 20000, 1), (0, 0, 1), 2000)
        self.meets(row, (2, 20000, 1), (1, 1, 1), None)
        self.meets(row, (2, 20000, 1), (2, 19999, 1), None)
        self.meets(row, (2, 20000, 1), (2, 39999, 2), None)
        self.too_far(row, (2, 20001, 1), (1, 2, 1))
        self.too_far(row, (2, 20001, 1), (1, 1, 1))
        self.too_far(row, (2, 20000 * MOST + 1, MOST), (2, 1, 1))

    def test_people_with_longer_tails_who_meet_before_that(self):
        self.meets(ARMS, (0, 1, 1), (1, 1, 1), 1)
        self.meets(ARMS, (0, 1999, 1), (1, 1999, 1), 1999)
        self.meets(ARMS, (0, 2000, 1), (1, 2000, 1), 2000)
        self.meets(ARMS, (0, 3999, 2), (1, 3999, 2), 2000)
        self.meets(ARMS, (0, 0, 1), (1, 0, 1), 0)

    def test_people_with_longer_tails_who_do_not(self):
        self.too_far(ARMS, (0, 2001, 1), (1, 2001, 1))
        self.too_far(ARMS, (0, 4001, 2), (1, 4001, 2))
        self.too_far(ARMS, (0, 2000 * MOST + 1, MOST), (1, 2000 * MOST + 1, MOST))
        self.too_far(ARMS, (0, 5, 1), (1, 6, 1))
        self.too_far(ARMS, (2, LONG - 2001, 1), (2, LONG - 2002, 1))

    def test_one_person_with_a_longer_tail(self):
        self.too_far(SLOW, (0, 2001, 1), (0, 0, 1))
        self.too_far(SLOW, (0, 2001, 1), (0, 2000, 1))
        self.too_far(SLOW, (0, 2000 * MOST + 1, MOST), (0, 2000, 1))
        self.too_far(ARMS, (2, LONG - 2001, 1), (2, LONG, 1))

    def test_by_keyword(self):
        row = row_of(LINE, [(0, 4, 1)])
        self.assertEqual(meet(other=Place(0, 9, 1), one=Place(0, 1, 1), row=row), 5)


class Errors(Asking, unittest.TestCase):
    def test_a_row_without_marches_comes_first(self):
        row = row_of(FORK, [])
        for place in (Place(0, 1, 1), Place(9, 1, 1), Place(0, -1, 1)):
            fields = {"what": "marches", "count": 0}
            self.refuses(BadCount, fields, fate, row, place)
            self.refuses(BadCount, fields, meet, row, place, Place(0, 1, 1))
            self.refuses(BadCount, fields, meet, row, Place(0, 1, 1), place)
            for rounds in (0, 1, -1, MOST + 1):
                self.refuses(BadCount, fields, far, row, place, rounds)

    def test_places_that_the_tree_does_not_have(self):
        row = row_of(FORK, [(0, 3, 1)])
        fine = Place(0, 1, 1)
        bad = [
            (Place(3, 0, 1), NoRoad, {"road": 3}), (Place(-1, -1, 2), NoRoad, {"road": -1}),
            (Place(1, 5, 2), OffRoad, {"road": 1}), (Place(2, -1, 3), OffRoad, {"road": 2}),
        ]
        for place, error, fields in bad:
            self.refuses(error, fields, fate, row, place)
            for rounds in (0, 2001, -1, MOST + 1):
                self.refuses(error, fields, far, row, place, rounds)
            self.refuses(error, fields, meet, row, fine, place)
            for other, _, _ in bad:
                self.refuses(error, fields, meet, row, place, other)
            self.refuses(error, fields, meet, row, place, fine)

    def test_places_come_before_tails_that_are_too_long(self):
        far_out = Place(0, 5000, 1)
        self.refuses(NoRoad, {"road": 1}, meet, SLOW, far_out, Place(1, 0, 1))
        self.refuses(OffRoad, {"road": 0}, meet, SLOW, far_out, Place(0, LONG + 1, 1))

    def test_tails_that_are_too_long(self):
        for place in (Place(0, 2001, 1), Place(0, 4001, 2), Place(0, 2000 * MOST + 1, MOST), Place(0, LONG, 1)):
            self.refuses(Wide, {"count": 2001}, fate, SLOW, place)

    def test_rows_that_are_too_wide_have_fates_too(self):
        for pairs in (EXACTLY_400, EXACTLY_401, EXACTLY_630, EXACTLY_630 + GATHER, TWICE_401):
            marches = tip_marches(pairs)
            net = Net(9, STAR, 1)
            images = net.images(marches)
            row = row_of(STAR, marches)
            spots = [(name, spot) for at, (name, spot) in enumerate(net.keys_in_order()) if at % 97 == 0]
            for name, spot in spots:
                self.assertEqual(fate(row, place_of(name)), fate_of(images, spot))
                self.assertEqual(told(far(row, place_of(name), 3)), net.names[after_rounds(images, spot, 3)])
            for (one, first), (other, second) in zip(spots, spots[1:]):
                self.assertEqual(meet(row, place_of(one), place_of(other)), meeting_of(images, first, second))


class Limits(Asking, unittest.TestCase):
    """Tails of exactly 2,000 and of 2,001 rounds on long arms, found by walking."""

    @classmethod
    def setUpClass(cls):
        roads = [(0, arm, 13000) for arm in (1, 2, 3)]
        marches = [(1, 13000, 5), (2, 13000, 6), (0, 13000, 5)]
        cls.row = row_of(roads, marches)
        cls.net = Net(4, roads, 1)
        cls.images = cls.net.images(marches)
        cls.tails = dict.fromkeys(train_spots(cls.images), 0)
        for spot in cls.images:
            way = []
            while spot not in cls.tails:
                way.append(spot)
                spot = cls.images[spot]
            for earlier in reversed(way):
                cls.tails[earlier] = cls.tails[spot] + 1
                spot = earlier

    def with_tail(self, tail):
        """The first and the last place of each road that have a tail."""
        found = {}
        for name, spot in self.net.keys_in_order():
            if self.tails[spot] == tail:
                found.setdefault(name[0], []).append((name, spot))
        self.assertEqual(list(found), [0, 1, 2])
        return [case for cases in found.values() for case in (cases[0], cases[-1])]

    def position(self, spot, rounds):
        return self.net.names[after_rounds(self.images, spot, rounds)]

    def test_on_both_sides_of_the_limit(self):
        for tail in (1999, 2000):
            for name, spot in self.with_tail(tail):
                place = place_of(name)
                self.assertEqual(fate(self.row, place)[0], tail)
                for rounds in (1999, 2000, 2001, 2002):
                    self.assertEqual(told(far(self.row, place, rounds)), self.position(spot, rounds))
        for name, spot in self.with_tail(2001) + self.with_tail(2002):
            place = place_of(name)
            self.refuses(Wide, {"count": 2001}, fate, self.row, place)
            self.refuses(Wide, {"count": 2001}, far, self.row, place, 2001)
            self.refuses(Wide, {"count": 2001}, far, self.row, place, MOST)
            self.assertEqual(told(far(self.row, place, 2000)), self.position(spot, 2000))

    def test_meetings_on_both_sides_of_the_limit(self):
        cases = [(tail, *case) for tail in (1999, 2000, 2001) for case in self.with_tail(tail)]
        answers = []
        for at, (tail, name, spot) in enumerate(cases):
            for other_tail, other, other_spot in (cases * 2)[at + 1:at + 13:4]:
                expected = meeting_of(self.images, spot, other_spot)
                met = expected is not None and expected <= 2000
                if not met and max(tail, other_tail) > 2000:
                    self.refuses(Wide, {"count": 2001}, meet, self.row, place_of(name), place_of(other))
                    expected = "wide"
                else:
                    self.assertEqual(meet(self.row, place_of(name), place_of(other)), expected)
                answers.append(expected)
        self.assertIn(None, answers)
        self.assertIn("wide", answers)

    def test_meetings_after_exactly_2000_rounds(self):
        for tail in (2000, 2001):
            landed = {}
            for name, spot in self.net.keys_in_order():
                if self.tails[spot] == tail:
                    landed.setdefault(self.position(spot, tail), []).append(place_of(name))
            pairs = [places[:2] for places in landed.values() if len(places) > 1]
            self.assertGreater(len(pairs), 2)
            for one, other in pairs[:3]:
                if tail == 2000:
                    self.assertEqual(meet(self.row, one, other), 2000)
                else:
                    self.refuses(Wide, {"count": 2001}, meet, self.row, one, other)


class Conventions(unittest.TestCase):
    def test_the_arguments_do_not_change(self):
        row, place = row_of(FORK, [(2, 4, 1), (1, 0, 2)]), Place(1, 0, 1)
        fate(row, place)
        far(row, place, 5)
        meet(row, place, Place(2, 4, 1))
        self.assertEqual(told(place), (1, 0))
        self.assertEqual([(told(march.goal), march.steps) for march in row.marches], [((2, 4), 1), ((1, 0), 2)])
        self.assertEqual(row.tree, tree_of(FORK))


class AgainstWalking(unittest.TestCase):
    """Compared with a walk, round by round, for whole and fractional places."""

    def compare(self, seed, roads, marches, parts):
        choices = Choices(seed)
        net = Net(len(roads) + 1, roads, parts)
        images = net.images(marches)
        row = row_of(roads, marches)
        keys = net.keys_in_order()
        found = []
        for _ in range(8):
            one, spot = keys[choices.below(len(keys))]
            other, other_spot = keys[choices.below(len(keys))]
            tail, ring = fate(row, place_of(one))
            self.assertEqual((tail, ring), fate_of(images, spot))
            for rounds in (0, 1, 2, tail, tail + 1, choices.below(50)):
                self.assertEqual(told(far(row, place_of(one), rounds)), net.names[after_rounds(images, spot, rounds)])
            for rounds in (10 ** 30, 10 ** 30 - 1, 2001):
                expected = after_rounds(images, spot, tail + (rounds - tail) % 2)
                self.assertEqual(told(far(row, place_of(one), rounds)), net.names[expected])
            meeting = meet(row, place_of(one), place_of(other))
            self.assertEqual(meeting, meeting_of(images, spot, other_spot))
            found.append((min(tail, 1), ring, meeting if meeting is None else min(meeting, 2)))
        return found

    def test_many_rows(self):
        found = []
        rows = any_rows(8000, 150) + carrying_rows(8100, 120) + carrying_rows(8200, 50, turned=True)
        for at, (roads, marches) in enumerate(rows):
            found.extend(self.compare(8300 + at, roads, marches, 1 + at % 4))
        for tail in (0, 1):
            for ring in (1, 2):
                meetings = {meeting for one, other, meeting in found if (one, other) == (tail, ring)}
                self.assertEqual(meetings, {None, 0, 1, 2})

    def test_far_agrees_with_after(self):
        for roads, marches in any_rows(8400, 40) + carrying_rows(8500, 40):
            row = row_of(roads, marches)
            for place in (Place(0, 1, 2), Place(0, 0, 1), Place(0, 2, 3)):
                for rounds in (0, 1, 2, 3, 10, 41):
                    self.assertEqual(far(row, place, rounds), after(row, place, rounds=rounds))

    def test_fractions_of_long_roads(self):
        for tail in (1, 2, 77, 1500):
            place = Place(0, (tail - 1) * 10 ** 40 + 1, 10 ** 40)
            self.assertEqual(fate(SLOW, place), (tail, 1))
            self.assertEqual(told(far(SLOW, place, tail - 1)), (0, Fraction(1, 10 ** 40)))
            self.assertEqual(meet(SLOW, place, Place(0, tail - 1, 1)), tail)


if __name__ == "__main__":
    unittest.main()
