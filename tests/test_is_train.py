"""[12]: whether a paper describes the train of a row."""

import unittest
from fractions import Fraction
from itertools import product

from asking import Asking, place_of, row_of, told, tree_of
from oracle import Choices, Net
from rounds import any_rows, carrying_rows, stands_along, train_of
from wide import EXACTLY_400, EXACTLY_401, EXACTLY_630, GATHER, LONG_STAR, SCALE, STAR, TWICE_400, TWICE_401, tip_marches

from onetrain.errors import BadCount, Wide
from onetrain.places import Place
from onetrain.trains import Train, is_train, train

FORK = [(0, 1, 3), (0, 2, 2), (3, 0, 4)]
# The train of the fork is not turned, that of the beam is, and that of the line is one position.
FORK_MARCHES = [(0, 3, 2), (2, 0, 2)]
BEAM = [(0, 1, 10), (0, 2, 10), (0, 3, 10)]
BEAM_MARCHES = [(1, 10, 5), (2, 10, 6), (0, 10, 5)]
LINE = [(0, 1, 10)]
LINE_MARCHES = [(0, 10, 20), (0, 0, 4), (0, 3, 1)]
LONG = 10 ** 9
# Places that no tree here has.
NOWHERE = [(3, 0), (-1, 0), (0, -1), (0, 11), (2, 10 ** 30), (0, Fraction(-1, 2)), (10 ** 30, Fraction(1, 2))]


def paper(one, other, is_turned, stands):
    """A train of pairs (road, fraction)."""
    pairs = [tuple(place_of((road, Fraction(where))) for road, where in pair) for pair in stands]
    ends = [place_of((road, Fraction(where))) for road, where in (one, other)]
    return Train(*ends, is_turned, pairs)


def is_right(net, marches, one, other, is_turned, stands):
    """Whether all conditions of the document hold, each tested by walking."""
    images = net.images(marches)
    spots = {name: spot for spot, name in net.names.items()}
    if one not in spots or other not in spots or one > other:
        return False
    if list(stands) != stands_along(net, marches, [one, other]):
        return False
    ends = (spots[one], spots[other])
    moved = (images[ends[0]], images[ends[1]])
    if not (moved == ends and not is_turned) and not (moved == ends[::-1] and ends[0] != ends[1] and is_turned):
        return False
    ahead, behind = net.counts_to(ends[0]), net.counts_to(ends[1])
    for end in ends:
        for near in net.beside[end]:
            if ahead[near] + behind[near] > ahead[ends[1]] and images[images[near]] == near:
                return False
    return True


class Papers(unittest.TestCase):
    def setUp(self):
        self.cases = []
        for roads, marches in [(FORK, FORK_MARCHES), (BEAM, BEAM_MARCHES), (LINE, LINE_MARCHES)]:
            net = Net(len(roads) + 1, roads, 1)
            self.cases.append((roads, marches, row_of(roads, marches), net, train_of(net, marches)))

    def fails(self, row, *fields):
        self.assertIs(is_train(row, paper(*fields)), False)

    def test_the_paper_of_train(self):
        for roads, marches, row, _, fields in self.cases:
            self.assertIs(is_train(row, train(row)), True)
            self.assertIs(is_train(row, paper(*fields)), True)
            self.assertIs(is_train(row_of(roads, marches), paper(*fields)), True)

    def test_by_keyword(self):
        for _, _, row, _, fields in self.cases:
            self.assertIs(is_train(paper=paper(*fields), row=row), True)

    def test_pairs_as_lists(self):
        for _, _, row, _, (one, other, is_turned, stands) in self.cases:
            found = paper(one, other, is_turned, stands)
            for pairs in ([list(pair) for pair in found.stands], tuple(found.stands)):
                self.assertIs(is_train(row, Train(found.one, found.other, is_turned, pairs)), True)

    def test_ends_exchanged(self):
        for roads, marches, row, net, (one, other, is_turned, stands) in self.cases[:2]:
            self.fails(row, other, one, is_turned, [pair[::-1] for pair in stands])
            self.fails(row, other, one, is_turned, stands)
            self.fails(row, one, other, is_turned, [pair[::-1] for pair in stands])

    def test_an_end_that_is_moved_to_any_place(self):
        for roads, marches, row, net, (one, other, is_turned, stands) in self.cases:
            for (wrong, _), at, turned in product(net.keys_in_order(), (0, 1), (True, False)):
                ends = [one, other]
                ends[at] = wrong
                ends.sort()
                fields = (*ends, turned, stands_along(net, marches, ends))
                expected = ends == [one, other] and turned == is_turned
                self.assertIs(is_right(net, marches, *fields), expected)
                self.assertIs(is_train(row, paper(*fields)), expected)
                if not expected:
                    self.fails(row, *fields[:2], turned, stands)

    def test_ends_that_are_not_keys(self):
        row = row_of(BEAM, BEAM_MARCHES)
        one, other, is_turned, stands = self.cases[1][4]
        self.assertEqual(one, (0, 0))
        for wrong in [(1, 0), (2, 0)]:
            self.fails(row, wrong, other, is_turned, stands)
            self.fails(row, wrong, other, is_turned, [(wrong, other), *stands[1:-1], (other, wrong)])
            self.fails(row, other, wrong, is_turned, [(other, wrong), *stands[1:-1], (wrong, other)])
        row = row_of(FORK, [(2, 4, 2)])
        for wrong, expected in [((0, 0), True), ((1, 0), False), ((2, 4), False)]:
            self.assertIs(is_train(row, paper(wrong, wrong, False, [(wrong, wrong)] * 2)), expected)
            self.assertIs(is_train(row, paper((0, 0), (0, 0), False, [((0, 0), (0, 0)), (wrong, wrong)])), expected)
            self.assertIs(is_train(row, paper((0, 0), wrong, False, [((0, 0), (0, 0))] * 2)), expected)

    def test_fractional_ends(self):
        for roads, marches, row, net, (one, other, is_turned, stands) in self.cases:
            half = Fraction(1, 2)
            finer = Net(len(roads) + 1, roads, 2)
            for ends in [[(one[0], one[1] + half), other], [one, (other[0], other[1] + half)],
                         [(one[0], one[1] + half)] * 2, [(0, half), (0, half)]]:
                for turned in (True, False):
                    self.fails(row, *ends, turned, stands_along(finer, marches, ends))
                    self.fails(row, *ends, turned, stands)

    def test_turned_the_other_way(self):
        for _, _, row, _, (one, other, is_turned, stands) in self.cases:
            self.fails(row, one, other, not is_turned, stands)

    def test_one_pair_changed(self):
        wrongs = [(0, 0), (0, 1), (1, 2), (0, Fraction(1, 2)), (0, Fraction(7, 3)), *NOWHERE]
        for _, _, row, _, (one, other, is_turned, stands) in self.cases:
            for at, pair in enumerate(stands):
                for wrong in wrongs:
                    for changed in [(wrong, pair[1]), (pair[0], wrong), (wrong, wrong)]:
                        if changed != pair:
                            self.fails(row, one, other, is_turned, [*stands[:at], changed, *stands[at + 1:]])

    def test_one_pair_exchanged(self):
        for _, _, row, _, (one, other, is_turned, stands) in self.cases[:2]:
            for at, pair in enumerate(stands):
                self.fails(row, one, other, is_turned, [*stands[:at], pair[::-1], *stands[at + 1:]])

    def test_one_pair_missing_or_too_many(self):
        for _, _, row, _, (one, other, is_turned, stands) in self.cases:
            self.fails(row, one, other, is_turned, [])
            for at, pair in enumerate(stands):
                self.fails(row, one, other, is_turned, [*stands[:at], *stands[at + 1:]])
                self.fails(row, one, other, is_turned, [*stands[:at], pair, *stands[at:]])
            self.fails(row, one, other, is_turned, stands[:1])
            self.fails(row, one, other, is_turned, stands + stands[1:])

    def test_pairs_in_another_order(self):
        for _, _, row, _, (one, other, is_turned, stands) in self.cases:
            if stands[::-1] != stands:
                self.fails(row, one, other, is_turned, stands[::-1])

    def test_ends_that_the_tree_does_not_have(self):
        for _, _, row, _, (one, other, is_turned, stands) in self.cases:
            for wrong in NOWHERE:
                for ends in [(wrong, other), (one, wrong), (wrong, wrong)]:
                    for turned in (True, False):
                        self.fails(row, *ends, turned, stands)
                        self.fails(row, *ends, turned, [ends] * len(stands))
                        self.fails(row, *ends, turned, [ends, *stands[1:-1], ends])

    def test_a_part_of_the_train(self):
        # Every position of a train that is not turned comes back, so all else holds for each part of it.
        row = row_of(FORK, FORK_MARCHES)
        net = Net(4, FORK, 1)
        names = [(0, 1), (0, 0), (2, 3), (2, 2), (2, 1), (2, 0)]
        for one, other in product(names, names):
            stands = stands_along(net, FORK_MARCHES, [one, other])
            self.assertEqual(stands[0], stands[-1])
            self.assertIs(is_train(row, paper(one, other, False, stands)), (one, other) == ((0, 1), (2, 0)))

    def test_a_part_of_a_train_that_is_turned(self):
        row = row_of(BEAM, BEAM_MARCHES)
        net = Net(4, BEAM, 1)
        for least, expected in [(0, True), (1, False), (2, False)]:
            ends = [(0, least), (0, 4 - least)]
            stands = stands_along(net, BEAM_MARCHES, ends)
            self.assertEqual(stands[0], stands[-1][::-1])
            for turned in (True, False):
                self.assertIs(is_train(row, paper(*ends, turned, stands)), expected and turned)

    def test_the_train_of_another_row(self):
        for _, _, row, _, _ in self.cases:
            for _, _, other, _, fields in self.cases:
                self.assertIs(is_train(row, paper(*fields)), row == other)

    def test_long_roads(self):
        row = row_of([(0, 1, LONG)], [(0, 0, 1), (0, LONG, 1)])
        right = ((0, 1), (0, LONG), False, [((0, 1), (0, LONG)), ((0, 0), (0, LONG - 1)), ((0, 1), (0, LONG))])
        self.assertIs(is_train(row, paper(*right)), True)
        for least, greatest in [(1, LONG - 1), (2, LONG), (5, 7), (8, 8)]:
            ends = ((0, least), (0, greatest))
            self.fails(row, *ends, False, [ends, ((0, least - 1), (0, greatest - 1)), ends])

    def test_the_arguments_do_not_change(self):
        for roads, marches, row, _, fields in self.cases:
            given = paper(*fields)
            is_train(row, given)
            self.assertEqual(given, paper(*fields))
            self.assertEqual(row, row_of(roads, marches))
            self.assertEqual(row.tree, tree_of(roads))


class Errors(Asking, unittest.TestCase):
    def papers(self, row):
        found = [Train(Place(0, 0, 1), Place(0, 0, 1), False, []), Train(Place(9, 0, 1), Place(0, 1, 2), True, [])]
        here = Place(0, 100, 1)
        return found + [Train(here, here, False, [(here, here)] * (len(row.marches) + 1))]

    def test_a_row_without_marches(self):
        row = row_of(FORK, [])
        for given in self.papers(row):
            self.refuses(BadCount, {"what": "marches", "count": 0}, is_train, row, given)

    def test_rows_that_are_too_wide(self):
        for pairs in (EXACTLY_401, EXACTLY_630, EXACTLY_401 + GATHER, TWICE_401, EXACTLY_400):
            for row in (row_of(STAR, tip_marches(pairs)), row_of(LONG_STAR, tip_marches(pairs, SCALE))):
                for given in self.papers(row):
                    self.refuses(Wide, {"count": 401}, is_train, row, given)

    def test_400_stretches(self):
        row = row_of(STAR, tip_marches(TWICE_400))
        right = train_of(Net(9, STAR, 1), tip_marches(TWICE_400))
        self.assertIs(is_train(row, paper(*right)), True)
        for given in self.papers(row):
            self.assertIs(is_train(row, given), False)


class AgainstWalking(unittest.TestCase):
    """Papers that are right, and papers that are spoilt, tested by all conditions of the document."""

    def spoilt(self, choices, fields, net, marches):
        one, other, is_turned, stands = fields
        names = [name for name, _ in net.keys_in_order()]
        kind = choices.below(6)
        if kind == 0:
            return (one, other, not is_turned, stands)
        if kind == 1:
            return (other, one, is_turned, [pair[::-1] for pair in stands])
        if kind == 2:
            at = choices.below(len(stands))
            pair = (stands[at][0], names[choices.below(len(names))])
            return (one, other, is_turned, [*stands[:at], pair, *stands[at + 1:]])
        if kind == 3:
            return (one, other, is_turned, stands[:choices.below(len(stands) + 1)])
        ends = [names[choices.below(len(names))], (one, other)[choices.below(2)]]
        if kind == 4:
            ends.sort()
        stands = stands_along(net, marches, ends)
        return (*ends, stands[-1] != stands[0], stands)

    def test_many_papers(self):
        answers = []
        rows = any_rows(7000, 100) + carrying_rows(7100, 100) + carrying_rows(7200, 40, turned=True)
        for at, (roads, marches) in enumerate(rows):
            choices = Choices(7300 + at)
            net = Net(len(roads) + 1, roads, 1)
            row = row_of(roads, marches)
            right = train_of(net, marches)
            self.assertTrue(is_right(net, marches, *right))
            self.assertIs(is_train(row, paper(*right)), True)
            for _ in range(5):
                fields = self.spoilt(choices, right, net, marches)
                expected = is_right(net, marches, *fields)
                self.assertIs(is_train(row, paper(*fields)), expected)
                answers.append(expected)
        self.assertGreater(answers.count(True), 20)
        self.assertGreater(answers.count(False), 500)

    def test_every_pair_of_ends(self):
        rows = carrying_rows(7400, 12, crossings=3, longest=4) + carrying_rows(7500, 8, turned=True, longest=3)
        for roads, marches in rows:
            net = Net(len(roads) + 1, roads, 1)
            row = row_of(roads, marches)
            right = []
            for (one, _), (other, _) in product(net.keys_in_order(), repeat=2):
                stands = stands_along(net, marches, [one, other])
                for is_turned in (True, False):
                    answer = is_train(row, paper(one, other, is_turned, stands))
                    self.assertIs(answer, is_right(net, marches, one, other, is_turned, stands))
                    right.extend([(one, other)] * answer)
            self.assertEqual(right, [(told(train(row).one), told(train(row).other))])


if __name__ == "__main__":
    unittest.main()
