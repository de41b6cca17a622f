"""[8]: whether stretches describe everything that a row does."""

import unittest
from fractions import Fraction

from asking import place_of, plain, row_of, stretches_of, told, tree_of
from oracle import Choices, Net, describes, longest_stretches
from wide import EXACTLY_400, EXACTLY_401, EXACTLY_630, GATHER, LONG_STAR, SCALE, STAR, scaled, tip_marches

from onetrain.doings import Stretch, doing, is_doing
from onetrain.marches import after
from onetrain.places import Place

FORK = [(0, 1, 3), (0, 2, 2), (3, 0, 4)]
MARCHES = [(0, 3, 2)]
# What the march does on the fork.
DOING = [
    (0, 0, 1, (0, 2), (0, 3)), (0, 1, 3, (0, 3), (0, 3)),
    (1, 0, 2, (0, 2), (0, 0)),
    (2, 0, 4, (2, 2), (0, 2)),
]
BEAM = [(0, 1, 10), (0, 2, 10), (0, 3, 10)]
LONG = 10 ** 9


def with_row(at, **changes):
    """The stretches of DOING, one of them with other fields."""
    stretches = stretches_of(DOING)
    for field, value in changes.items():
        setattr(stretches[at], field, value)
    return stretches


def split(row, rows):
    """The same stretches, split at every whole place."""
    found = []
    for road, least, greatest, _, _ in rows:
        for at in range(least, greatest):
            ends = [after(row, Place(road, number, 1)) for number in (at, at + 1)]
            found.append(Stretch(road, at, at + 1, *ends))
    return found


class Describing(unittest.TestCase):
    def setUp(self):
        self.row = row_of(FORK, MARCHES)

    def holds(self, stretches):
        self.assertIs(is_doing(self.row, stretches), True)
        self.assertIs(is_doing(self.row, tuple(stretches)), True)

    def fails(self, stretches):
        self.assertIs(is_doing(self.row, stretches), False)
        self.assertIs(is_doing(self.row, tuple(stretches)), False)

    def test_the_list_of_doing(self):
        self.holds(doing(self.row))
        self.holds(stretches_of(DOING))

    def test_by_keyword(self):
        self.assertIs(is_doing(stretches=doing(self.row), row=self.row), True)

    def test_split_at_further_places(self):
        self.holds(split(self.row, DOING))
        self.holds(stretches_of(DOING[:3] + [(2, 0, 3, (2, 2), (0, 1)), (2, 3, 4, (0, 1), (0, 2))]))
        self.holds(stretches_of(DOING[:3] + [(2, 0, 2, (2, 2), (0, 0)), (2, 2, 4, (0, 0), (0, 2))]))
        self.holds(stretches_of([
            DOING[0], (0, 1, 2, (0, 3), (0, 3)), (0, 2, 3, (0, 3), (0, 3)), *DOING[2:],
        ]))

    def test_a_row_without_marches(self):
        row = row_of(FORK, [])
        rows = [(0, 0, 3, (0, 0), (0, 3)), (1, 0, 2, (0, 0), (1, 2)), (2, 0, 4, (2, 0), (0, 0))]
        self.assertIs(is_doing(row, stretches_of(rows)), True)
        self.assertIs(is_doing(row, split(row, rows)), True)
        self.assertIs(is_doing(row, stretches_of(DOING)), False)

    def test_an_empty_list(self):
        self.fails([])

    def test_a_missing_stretch(self):
        for at in range(len(DOING)):
            self.fails(stretches_of(DOING[:at] + DOING[at + 1:]))

    def test_a_missing_road(self):
        self.fails(stretches_of(DOING[2:]))
        self.fails(stretches_of(DOING[:2] + DOING[3:]))
        self.fails(stretches_of(DOING[:3]))

    def test_a_gap(self):
        self.fails(stretches_of([DOING[0], (0, 2, 3, (0, 3), (0, 3)), *DOING[2:]]))
        self.fails(stretches_of([*DOING[:2], (1, 1, 2, (0, 1), (0, 0)), DOING[3]]))
        self.fails(stretches_of([*DOING[:3], (2, 0, 3, (2, 2), (0, 1))]))

    def test_an_overlap(self):
        self.fails(stretches_of([DOING[0], (0, 2, 3, (0, 3), (0, 3)), DOING[1], *DOING[2:]]))
        self.fails(stretches_of([DOING[0], (0, 1, 2, (0, 3), (0, 3)), (0, 1, 3, (0, 3), (0, 3)), *DOING[2:]]))
        self.fails(stretches_of([*DOING[:3], (2, 0, 3, (2, 2), (0, 1)), (2, 2, 4, (0, 0), (0, 2))]))

    def test_a_stretch_twice(self):
        for at in range(len(DOING)):
            self.fails(stretches_of(DOING[:at + 1] + DOING[at:]))

    def test_a_wrong_order(self):
        for at in range(len(DOING)):
            for index in range(at):
                rows = list(DOING)
                rows[at], rows[index] = rows[index], rows[at]
                self.fails(stretches_of(rows))
        self.fails(stretches_of(DOING[::-1]))

    def test_a_stretch_of_no_length(self):
        self.fails(stretches_of([(0, 0, 0, (0, 2), (0, 2)), *DOING]))
        self.fails(stretches_of([DOING[0], (0, 1, 1, (0, 3), (0, 3)), *DOING[1:]]))
        self.fails(stretches_of([*DOING[:2], (0, 3, 3, (0, 3), (0, 3)), *DOING[2:]]))
        self.fails(stretches_of([*DOING, (2, 4, 4, (0, 2), (0, 2))]))
        self.fails(stretches_of([*DOING, (3, 0, 0, (0, 2), (0, 2))]))

    def test_ends_that_are_not_keys(self):
        for at, field, wrong in [(2, "last", (1, 0)), (2, "last", (2, 4))]:
            self.fails(with_row(at, **{field: Place(*wrong, 1)}))
        row = row_of(FORK, [(1, 2, 2)])
        rows = plain(doing(row))
        self.assertEqual(rows[0], (0, 0, 3, (1, 2), (0, 1)))
        self.assertEqual(rows[2], (2, 0, 4, (2, 2), (1, 2)))
        rows[2:] = [(2, 0, 2, (2, 2), (0, 0)), (2, 2, 4, (0, 0), (1, 2))]
        self.assertIs(is_doing(row, stretches_of(rows)), True)
        for name in [(1, 0), (2, 4)]:
            for at, field in [(2, "last"), (3, "first")]:
                stretches = stretches_of(rows)
                setattr(stretches[at], field, Place(*name, 1))
                self.assertIs(is_doing(row, stretches), False)

    def test_other_ends(self):
        for at in range(len(DOING)):
            for field in ("first", "last"):
                kept = getattr(stretches_of(DOING)[at], field)
                for wrong in [Place(0, 1, 1), Place(1, 1, 1), Place(2, 0, 1), Place(kept.road, 2 * kept.number + 1, 2)]:
                    self.fails(with_row(at, **{field: wrong}))

    def test_ends_changed_round(self):
        for at in (0, 2, 3):
            stretch = stretches_of(DOING)[at]
            self.fails(with_row(at, first=stretch.last, last=stretch.first))

    def test_two_neighbours_merged(self):
        self.fails(stretches_of([(0, 0, 3, (0, 2), (0, 3)), *DOING[2:]]))
        self.fails(stretches_of([(0, 0, 3, (0, 3), (0, 3)), *DOING[2:]]))

    def test_a_cut_moved_by_one_step(self):
        self.fails(stretches_of([(0, 0, 2, (0, 2), (0, 3)), (0, 2, 3, (0, 3), (0, 3)), *DOING[2:]]))
        row = row_of([(0, 1, 10)], [(0, 0, 4)])
        for cut in range(1, 10):
            rows = [(0, 0, cut, (0, 0), (0, 0)), (0, cut, 10, (0, 0), (0, 6))]
            self.assertIs(is_doing(row, stretches_of(rows)), cut == 4)
            rows = [(0, 0, cut, (0, 0), (0, max(0, cut - 4))), (0, cut, 10, (0, max(0, cut - 4)), (0, 6))]
            self.assertIs(is_doing(row, stretches_of(rows)), cut == 4)

    def test_roads_that_the_tree_does_not_have(self):
        for road in (-1, -3, 3, 4, 10 ** 30, -10 ** 30):
            for at in range(len(DOING)):
                self.fails(with_row(at, road=road))
            self.fails(stretches_of([*DOING, (road, 0, 1, (0, 0), (0, 0))]))
            self.fails(stretches_of([(road, 0, 1, (0, 0), (0, 0)), *DOING]))

    def test_numbers_that_the_tree_does_not_have(self):
        for at in range(len(DOING)):
            for wrong in (-1, -10 ** 30, 10 ** 30, 5):
                self.fails(with_row(at, least=wrong))
                self.fails(with_row(at, greatest=wrong))
            self.fails(with_row(at, least=5, greatest=-5))
        self.fails(stretches_of([*DOING[:2], (0, 3, 4, (0, 3), (0, 3)), *DOING[2:]]))
        self.fails(stretches_of([*DOING, (2, 4, 5, (0, 2), (0, 3))]))

    def test_places_that_the_tree_does_not_have(self):
        wrong = [(3, 0), (-1, 0), (10 ** 30, 1), (0, -1), (0, 4), (0, Fraction(-1, 2)), (0, Fraction(7, 2)), (2, 10 ** 30)]
        for at in range(len(DOING)):
            for name in wrong:
                self.fails(with_row(at, first=place_of((name[0], Fraction(name[1])))))
                self.fails(with_row(at, last=place_of((name[0], Fraction(name[1])))))
                both = place_of((name[0], Fraction(name[1])))
                self.fails(with_row(at, first=both, last=both))

    def test_the_doing_of_another_row(self):
        for marches in ([], [(0, 3, 1)], [(0, 3, 3)], [(0, 2, 2)], [(2, 0, 2)]):
            self.fails(doing(row_of(FORK, marches)))
        self.fails(doing(row_of([(0, 1, 3), (0, 2, 2)], MARCHES)))
        self.fails(doing(row_of([(0, 1, 3), (0, 2, 2), (0, 3, 5)], MARCHES)))

    def test_another_row_with_the_same_doing(self):
        self.assertIs(is_doing(row_of(FORK, [(0, 3, 1), (0, 3, 1)]), stretches_of(DOING)), True)

    def test_the_arguments_do_not_change(self):
        stretches = stretches_of(DOING)
        kept = list(stretches)
        is_doing(self.row, stretches)
        self.assertEqual(plain(stretches), DOING)
        self.assertEqual(stretches, kept)
        self.assertEqual(self.row, row_of(FORK, MARCHES))
        self.assertEqual(self.row.tree, tree_of(FORK))


class Folded(unittest.TestCase):
    """Stretches whose ends are where they should be, and other positions are not."""

    def setUp(self):
        # Road 0 is moved from (2, 2) over the crossing one step into road 1, and turns back there.
        self.marches = [(2, 10, 3), (1, 10, 1)]
        self.row = row_of(BEAM, self.marches)
        self.rest = plain(doing(self.row))[2:]

    def test_the_image_turns_back(self):
        good = [(0, 0, 3, (2, 2), (1, 1)), (0, 3, 10, (1, 1), (0, 6))]
        self.assertIs(is_doing(self.row, stretches_of(good + self.rest)), True)
        merged = [(0, 0, 10, (2, 2), (0, 6))]
        self.assertIs(is_doing(self.row, stretches_of(merged + self.rest)), False)
        for cut in (1, 2, 4, 5):
            there = told(after(self.row, Place(0, cut, 1)))
            moved = [(0, 0, cut, (2, 2), there), (0, cut, 10, there, (0, 6))]
            self.assertIs(is_doing(self.row, stretches_of(moved + self.rest)), False)

    def test_it_turns_back_to_where_it_began(self):
        # Both 2 and 4 steps along road 0 are moved to the crossing; what lies between is not.
        good = [(0, 0, 2, (2, 2), (0, 0)), (0, 2, 3, (0, 0), (1, 1)), (0, 3, 4, (1, 1), (0, 0)),
                (0, 4, 10, (0, 0), (0, 6))]
        self.assertIs(is_doing(self.row, stretches_of(good + self.rest)), True)
        gathered = [good[0], (0, 2, 4, (0, 0), (0, 0)), good[3]]
        self.assertIs(is_doing(self.row, stretches_of(gathered + self.rest)), False)

    def test_folded_and_then_drawn_together(self):
        row = row_of(BEAM, self.marches + [(1, 0, 2)])
        rest = plain(doing(row))[2:]
        good = [(0, 0, 6, (0, 0), (0, 0)), (0, 6, 10, (0, 0), (0, 4))]
        self.assertIs(is_doing(row, stretches_of(good + rest)), True)
        for cut in range(1, 6):
            parts = [(0, 0, cut, (0, 0), (0, 0)), (0, cut, 6, (0, 0), (0, 0)), good[1]]
            self.assertIs(is_doing(row, stretches_of(parts + rest)), True)
        for cut, there in [(7, (0, 1)), (8, (0, 2))]:
            moved = [(0, 0, cut, (0, 0), (0, 0)), (0, cut, 10, there, (0, 4))]
            self.assertIs(is_doing(row, stretches_of(moved + rest)), False)

    def test_a_fold_that_is_nearly_drawn_together(self):
        # Road 0 from 0 to 400 leads 200 steps into road 1 and back; the last march shortens this fold.
        for scale in (1, 10 ** 6):
            roads = [(0, arm, 1000 * scale) for arm in (1, 2, 3)]
            fold = [(2, 1000 * scale, 200 * scale), (1, 1000 * scale, 200 * scale)]
            for steps in (200 * scale - 2, 200 * scale - 1, 200 * scale, 200 * scale + 1):
                row = row_of(roads, fold + [(1, 0, steps)])
                end = 400 * scale + steps
                rows = [
                    (0, 0, 400 * scale, (0, 0), (0, 0)), (0, 400 * scale, end, (0, 0), (0, 0)),
                    (0, end, 1000 * scale, (0, 0), (0, 1000 * scale - end)),
                ]
                rest = [stretch for stretch in doing(row) if stretch.road != 0]
                self.assertIs(is_doing(row, stretches_of(rows) + rest), steps >= 200 * scale)


def fits(rows, roads):
    """Whether all stretches lie on their roads."""
    return all(0 <= least < greatest <= roads[road][2] for road, least, greatest, _, _ in rows)


class AgainstWalking(unittest.TestCase):
    """Compared with a walk of every whole place, for right lists and for spoilt ones."""

    def spoilt(self, choices, rows, roads, net, images):
        rows = list(rows)
        at = choices.below(len(rows))
        road, least, greatest, first, last = rows[at]
        kind = choices.below(8)
        if kind == 0:
            rows[at] = (road, least + choices.below(3) - 1, greatest, first, last)
        elif kind == 1:
            rows[at] = (road, least, greatest + choices.below(3) - 1, first, last)
        elif kind == 2:
            del rows[at]
        elif kind == 3:
            rows[at] = (road, least, greatest, last, first)
        elif kind == 4 and at + 1 < len(rows):
            rows[at:at + 2] = [(road, least, rows[at + 1][2], first, rows[at + 1][4])]
        elif kind == 5:
            other = (choices.below(len(roads)), Fraction(choices.below(9), 1 + choices.below(2)))
            rows[at] = (road, least, greatest, first, other)
        elif kind == 6 and at + 1 < len(rows):
            cut = greatest + choices.below(3) - 1
            rows[at:at + 2] = [(road, least, cut, first, last), (rows[at + 1][0], cut, *rows[at + 1][2:])]
        elif greatest - least > 1:
            cut = least + 1 + choices.below(greatest - least - 1)
            middle = net.names[images[net.spot(road, cut)]]
            rows[at:at + 1] = [(road, least, cut, first, middle), (road, cut, greatest, middle, last)]
        return rows

    def test_many_lists(self):
        answers = []
        for seed in range(400):
            choices = Choices(3000 + seed)
            roads = choices.roads(2 + choices.below(6), 2 + choices.below(8))
            marches = choices.marches(roads, choices.below(8), 2 + choices.below(8))
            net = Net(len(roads) + 1, roads, 1)
            images = net.images(marches)
            row = row_of(roads, marches)
            right = longest_stretches(net, images)
            self.assertIs(is_doing(row, stretches_of(right)), True)
            self.assertIs(is_doing(row, split(row, right)), True)
            for _ in range(5):
                rows = self.spoilt(choices, right, roads, net, images)
                if choices.below(2) and rows and fits(rows, roads):
                    rows = self.spoilt(choices, rows, roads, net, images)
                expected = describes(net, images, rows)
                self.assertIs(is_doing(row, stretches_of(rows)), expected)
                answers.append(expected)
        self.assertGreater(answers.count(True), 100)
        self.assertGreater(answers.count(False), 100)


class Width(unittest.TestCase):
    """`is_doing` raises no error, also where `doing` does."""

    def compare(self, pairs):
        net = Net(9, STAR, 1)
        rows = longest_stretches(net, net.images(tip_marches(pairs)))
        row, long_row = row_of(STAR, tip_marches(pairs)), row_of(LONG_STAR, tip_marches(pairs, SCALE))
        self.assertIs(is_doing(row, stretches_of(rows)), True)
        self.assertIs(is_doing(long_row, stretches_of(scaled(rows))), True)
        self.assertIs(is_doing(row, []), False)
        self.assertIs(is_doing(row, stretches_of(rows[:-1])), False)
        at = len(rows) // 2
        merged = (rows[at][0], rows[at][1], rows[at + 1][2], rows[at][3], rows[at + 1][4])
        self.assertIs(is_doing(row, stretches_of(rows[:at] + [merged] + rows[at + 2:])), False)
        self.assertIs(is_doing(long_row, stretches_of(scaled(rows[:at] + [merged] + rows[at + 2:]))), False)

    def test_400_stretches(self):
        self.compare(EXACTLY_400)

    def test_more_stretches_than_doing_tells(self):
        self.compare(EXACTLY_401)
        self.compare(EXACTLY_630)

    def test_a_prefix_that_is_too_wide(self):
        for pairs in (EXACTLY_401, EXACTLY_630):
            self.compare(pairs + GATHER)
            row = row_of(LONG_STAR, tip_marches(pairs + GATHER, SCALE))
            length = 100 * SCALE
            rows = [
                (road, at * SCALE, (at + 1) * SCALE, (0, length), (0, length))
                for road in range(8) for at in range(100)
            ]
            self.assertIs(is_doing(row, stretches_of(rows)), True)
            rows[3] = (*rows[3][:4], (0, length - 1))
            self.assertIs(is_doing(row, stretches_of(rows)), False)

    def test_long_roads(self):
        row = row_of([(0, 1, LONG)], [(0, LONG - 1, LONG - 2), (0, 0, 1)])
        right = [(0, 0, 1, (0, LONG - 3), (0, LONG - 2)), (0, 1, LONG, (0, LONG - 2), (0, LONG - 2))]
        self.assertIs(is_doing(row, stretches_of(right)), True)
        wrong = [(0, 0, 2, (0, LONG - 3), (0, LONG - 2)), (0, 2, LONG, (0, LONG - 2), (0, LONG - 2))]
        self.assertIs(is_doing(row, stretches_of(wrong)), False)
        self.assertIs(is_doing(row, stretches_of([(0, 0, LONG, (0, LONG - 3), (0, LONG - 2))])), False)


if __name__ == "__main__":
    unittest.main()
