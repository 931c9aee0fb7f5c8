"""What many answers, and what it refuses."""

import itertools
import unittest

import lutefingers.hands
from helper import BAR, KINDS, Dice, Listing, alone, codes, piece_text
from lutefingers.hands import best, many
from lutefingers.moments import Moment
from lutefingers.plans import Stage, Way, cheapest_of

MOST = 2147483647
GOOD = "french\nq c.....\n|\n .d....\n"
FREE = [0] * 9
FULL = 1000000000
# One grip alone: position 4, finger 4 on fret 8, a barre on fret 3.
WIDE = [(1, 8), (2, 3), (3, 3), (4, 3)]


def piece(*moments):
    return [line if line == BAR else (16, line) for line in moments]


def many_of(ring, lines, w, kind="italian"):
    return many(ring, codes(piece_text(kind, lines)), w)


class AgainstAListing(unittest.TestCase):
    def test_short_pieces(self):
        dice = Dice(80)
        several = 0
        for kind in KINDS * 25:
            lines = dice.listed_lines()
            t = codes(piece_text(kind, lines))
            for ring in range(3):
                listing = Listing(lines, ring)
                for w in [FREE, [1] * 9, alone(dice.below(9), 255)] + [dice.weights() for _ in range(3)]:
                    with self.subTest(kind=kind, lines=lines, ring=ring, w=w):
                        costs = [cost for cost, _ in listing.costs(w)]
                        expected = [min(costs), costs.count(min(costs))] if costs else [-3]
                        self.assertEqual(many(ring, t, w), expected)
                        self.assertEqual(many(ring, t, w)[0], best(ring, t, w)[0])
                        several += bool(costs) and expected[1] > 1
        self.assertGreater(several, 100)

    def test_each_weight_alone(self):
        dice = Dice(81)
        for kind in KINDS * 3:
            lines = dice.listed_lines()
            for ring in range(3):
                listing = Listing(lines, ring)
                for number in range(9):
                    w = alone(number, 1 + dice.below(255))
                    costs = [cost for cost, _ in listing.costs(w)]
                    expected = [min(costs), costs.count(min(costs))] if costs else [-3]
                    self.assertEqual(many_of(ring, lines, w, kind), expected, (lines, ring, w))


class Edges(unittest.TestCase):
    def test_all_weights_0_count_every_plan(self):
        self.assertEqual(many_of(0, piece([(1, 1)]), FREE), [0, 3])
        self.assertEqual(many_of(0, piece([(1, 5)], [(1, 1)], []), FREE), [0, 12 * 3 * 15])
        self.assertEqual(many_of(1, piece([]), FREE), [0, 15])

    def test_a_kept_finger_leaves_fewer(self):
        # Fret 5 twice: 12 grips, then under the same finger from three positions; struck anew, from all 12.
        for ring in (1, 2):
            self.assertEqual(many_of(ring, piece([(1, 5)], []), FREE), [0, 36])
            self.assertEqual(many_of(ring, piece([(1, 5)], [(1, 5)]), FREE), [0, 144])
        self.assertEqual(many_of(0, piece([(1, 5)], []), FREE), [0, 180])
        self.assertEqual(many_of(1, piece([(1, 5)], BAR, []), FREE), [0, 36])
        self.assertEqual(many_of(2, piece([(1, 5)], BAR, []), FREE), [0, 180])

    def test_one_plan_alone(self):
        for w in (FREE, [1] * 9, [255] * 9):
            self.assertEqual(many_of(0, piece(WIDE, WIDE), w)[1], 1)
        self.assertEqual(many_of(0, piece([], []), [1, 0, 0, 0, 0, 0, 0, 0, 1]), [0, 1])
        self.assertEqual(many_of(0, piece(*[[]] * 512), [1, 0, 0, 0, 0, 0, 0, 0, 1]), [0, 1])

    def test_a_few_of_many(self):
        # Nothing is to be paid as long as the position stays.
        self.assertEqual(many_of(0, piece(*[[]] * 512), alone(0)), [0, 15])
        # Finger 1 alone costs nothing; it reaches fret 5 from 3 positions, and each may follow each.
        self.assertEqual(many_of(0, piece([(1, 5)], [(1, 5)]), [0, 0, 1, 1, 1, 0, 0, 0, 0]), [0, 9])

    def test_around_the_most_that_is_counted(self):
        # With all weights 0 each moment multiplies the plans by the number of its grips.
        stops = {
            2: [(1, 1), (2, 3), (3, 6)], 4: [(1, 1), (2, 2)], 5: [(1, 1), (2, 2), (3, 3)], 6: [(1, 2)],
            7: [(1, 1), (2, 3)], 8: [(1, 3), (2, 3), (3, 3)], 9: [(1, 3)], 10: [(1, 2), (2, 3)], 11: [(1, 4)],
            13: [(1, 3), (2, 4)], 15: [],
        }
        for factors, expected in (
            ([10] * 8, 100000000),
            ([10] * 8 + [9], 900000000),
            ([7, 7, 7, 7, 7, 8, 4, 11, 13, 13], 999814816),
            ([10] * 9, FULL),
            ([5] * 9 + [2] * 9, FULL),
            ([6] * 5 + [5, 5, 5, 7, 7, 7] + [15] + [2], FULL),
            ([10] * 8 + [11], FULL),
            ([10] * 10, FULL),
        ):
            moments = [stops[factor] for factor in factors]
            for lines in (piece(*moments), piece(*reversed(moments))):
                self.assertEqual(many_of(0, lines, FREE), [0, expected], factors)

    def test_each_number_up_to_the_most(self):
        # Pieces don't come to every number, so the counting itself is asked for those beside the most.
        for counts, expected in (
            ((FULL - 2, 1), FULL - 1), ((FULL - 1, 1), FULL), ((1, FULL - 1), FULL), ((FULL - 1, 2), FULL),
            ((FULL, FULL), FULL), ((FULL - 1,), FULL - 1), ((FULL // 2, FULL // 2 - 1), FULL - 1),
        ):
            stage = Stage(Moment([], []))
            stage.ways = [Way(5, count, None) for count in counts] + [Way(6, FULL, None)]
            self.assertEqual(cheapest_of(stage, [0] * len(stage.ways)).count, expected)

    def test_very_many(self):
        for kind, ring in itertools.product(KINDS, range(3)):
            self.assertEqual(many_of(ring, piece(*[[]] * 512), FREE, kind), [0, FULL])

    def test_very_many_that_cost_something(self):
        w = [0, 2, 2, 2, 2, 0, 0, 0, 0]
        self.assertEqual(many_of(0, piece(*[[(1, 7)]] * 512), w), [1024, FULL])

    def test_very_many_that_do_not_go_on_are_not_counted(self):
        # The cheapest plans begin at position 1 and stay there, however many others there are.
        w = [1, 0, 0, 0, 0, 0, 0, 0, 1]
        self.assertEqual(many_of(0, piece(*[[]] * 300, [(1, 1)]), w), [0, 2])

    def test_no_plan(self):
        far = [(1, 1), (6, 15)]
        for ring in range(3):
            for lines in (piece(far), piece([], far), piece(far, []), piece(*[[]] * 300, far)):
                self.assertEqual(many_of(ring, lines, FREE), [-3])
        none_together = piece([(1, 5), (2, 2), (3, 3), (4, 4)], [(2, 6), (3, 7), (4, 8)])
        self.assertEqual(many_of(1, none_together, FREE), [-3])
        self.assertEqual(many_of(2, none_together, FREE), [-3])
        self.assertGreater(many_of(0, none_together, FREE)[1], 0)

    def test_no_plan_and_one_plan_of_no_cost_are_told_apart(self):
        self.assertEqual(many_of(0, piece([]), alone(8)), [0, 1])


class LongPieces(unittest.TestCase):
    def test_512_moments_of_the_same(self):
        stops = [(course, 3) for course in range(1, 6)] + [(6, 5)]
        t = codes(piece_text("german", [(8, stops)] * 512))
        for ring in range(3):
            w = [1, 1, 1, 1, 9, 2, 1, 1, 0]
            self.assertEqual(many(ring, t, w), [512 * 3, 1])
        self.assertEqual(best(1, t, w)[0], 512 * 3)
        self.assertEqual(many(1, t, FREE), [0, FULL])

    def test_512_moments_that_ring_on(self):
        moments = [[(course, 5) for course in range(1, 7)]] + [[]] * 511
        # The fingers stay as they are, so only the position is free: with weight 0 alone it stays too.
        self.assertEqual(many_of(1, piece(*moments), alone(0)), [0, 7])
        self.assertEqual(many_of(1, piece(*moments), FREE), [0, FULL])


class Refusals(unittest.TestCase):
    long_one, none, good = [10] * 65537, codes("french\nq c....\n"), codes(GOOD)
    stuck = codes("french\nq b....q\n")
    wrong_weights = (
        [], [0], [0] * 8, [0] * 10, [0] * 12, [256] + [0] * 8, [0] * 8 + [256], [0] * 4 + [MOST] + [0] * 4,
        [256] * 9, [MOST] * 12, [255] * 8, [255] * 10,
    )

    def test_each(self):
        for ring in range(3):
            self.assertEqual(many(ring, self.long_one, FREE), [-2])
            self.assertEqual(many(ring, self.none, FREE), [-6])
            self.assertEqual(many(ring, [], FREE), [-6])
            self.assertEqual(many(ring, self.stuck, FREE), [-3])
            self.assertGreaterEqual(many(ring, self.good, [255] * 9)[0], 0)
            for w in self.wrong_weights:
                self.assertEqual(many(ring, self.good, w), [-1], w)
        for ring in (3, 4, 256, MOST):
            self.assertEqual(many(ring, self.good, FREE), [-1])

    def test_65536_bytes_are_looked_at(self):
        self.assertEqual(many(0, [10] * 65536, FREE), [-6])

    def test_order(self):
        for ring, w in ((3, FREE), (0, [0] * 8), (3, [256] * 9), (MOST, [])):
            self.assertEqual(many(ring, self.long_one, w), [-2])
            self.assertEqual(many(ring, self.none, w), [-6])
            self.assertEqual(many(ring, self.good, w), [-1])
            self.assertEqual(many(ring, self.stuck, w), [-1])


class WhatIsHandedIn(unittest.TestCase):
    def test_stays_as_it_was(self):
        texts = (GOOD, "german\nq k 3 +\n e\n", "italian\nx 555555\n", "french\nq b....q\n", "no piece", "x" * 65537)
        for text, ring, weights in itertools.product(texts, range(4), (FREE, [3] * 9, [1, 2], [300] * 9)):
            t, w = codes(text), list(weights)
            first = many(ring, t, w)
            self.assertEqual((t, w), (codes(text), weights))
            self.assertEqual((type(first), {type(number) for number in first}), (list, {int}))
            self.assertIn(len(first), (1, 2))
            told = list(first)
            first.append(99)
            self.assertEqual(many(ring, t, w), told)
            self.assertEqual((t, w), (codes(text), weights))

    def test_names_of_the_arguments(self):
        self.assertEqual(lutefingers.hands.many(ring=0, t=codes(GOOD), w=FREE), [0, 54])
        self.assertEqual(lutefingers.hands.many(0, codes(GOOD), FREE), [0, 54])


if __name__ == "__main__":
    unittest.main()
