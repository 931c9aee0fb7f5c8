"""What best answers, and what it refuses."""

import itertools
import unittest

import lutefingers.hands
from helper import BAR, KINDS, Dice, Listing, alone, codes, piece_text
from lutefingers.hands import best

MOST = 2147483647
GOOD = "french\nq c.....\n|\n .d....\n"
FREE = [0] * 9
# One grip alone: position 4, finger 4 on fret 8, a barre on fret 3; both fingers a fret off their place.
WIDE = [(1, 8), (2, 3), (3, 3), (4, 3)]


def cost_and_text(answer):
    """An answer's cost and text, once it is seen that the text is as long as told."""
    if len(answer) != 2 + answer[1]:
        raise AssertionError(answer)
    return answer[0], bytes(answer[2:]).decode("latin-1")


def piece(*moments):
    return [line if line == BAR else (16, line) for line in moments]


def best_of(ring, lines, w, kind="french"):
    return cost_and_text(best(ring, codes(piece_text(kind, lines)), w))


class AgainstAListing(unittest.TestCase):
    def check(self, kind, lines, ring, listing, w):
        answer = best(ring, codes(piece_text(kind, lines)), w)
        with self.subTest(kind=kind, lines=lines, ring=ring, w=w):
            if not listing.plans():
                self.assertEqual(answer, [-3])
                return
            cost, text = cost_and_text(answer)
            # Plans are put by the first moment where they differ: position, then fingers by courses.
            lowest, first = min(listing.costs(w))
            self.assertEqual((cost, text), (lowest, listing.text(first)))

    def test_short_pieces(self):
        dice = Dice(7)
        playable = 0
        for kind in KINDS * 25:
            lines = dice.listed_lines()
            for ring in range(3):
                listing = Listing(lines, ring)
                playable += bool(listing.plans())
                for w in [FREE, [1] * 9] + [dice.weights() for _ in range(4)]:
                    self.check(kind, lines, ring, listing, w)
        self.assertGreater(playable, 100)

    def test_each_weight_alone(self):
        dice = Dice(8)
        for kind in KINDS * 3:
            lines = dice.listed_lines()
            for ring in range(3):
                listing = Listing(lines, ring)
                for number in range(9):
                    self.check(kind, lines, ring, listing, alone(number))
                    self.check(kind, lines, ring, listing, alone(number, 255))

    def test_the_listing_itself(self):
        # A plan's counts are the document's numbers, so they are held against an example worked out by hand.
        listing = Listing(piece(WIDE, [(1, 8), (5, 3), (6, 3)]), 0)
        plan = ((4, (4, 1, 1, 1)), (4, (4, 1, 1)))
        self.assertEqual(listing.plans(), [(plan, [0, 2, 0, 0, 2, 4, 2, 1, 3])])
        self.assertEqual(listing.text(plan), "4 1:4 2:1 3:1 4:1\n4 1:4 5:1 6:1\n")


class EachWeight(unittest.TestCase):
    def test_no_weight_tells_the_first_plan(self):
        self.assertEqual(best_of(0, piece([(1, 1)], [(1, 15)]), FREE), (0, "1 1:1\n11 1:4\n"))

    def test_w0_is_paid_for_each_fret_between_positions(self):
        self.assertEqual(best_of(0, piece([(1, 1)], [(1, 15)]), alone(0)), (9, "2 1:1\n11 1:4\n"))
        self.assertEqual(best_of(0, piece([(1, 15)], [(1, 1)]), alone(0, 255)), (9 * 255, "11 1:4\n2 1:1\n"))
        self.assertEqual(best_of(0, piece([], [(1, 9)], []), alone(0)), (0, "5\n5 1:4\n5\n"))

    def test_w1_to_w4_are_each_a_finger(self):
        for number, fret, free, paid in (
            (1, 1, "1 1:1\n", "1 1:2\n"),
            (2, 3, "1 1:2\n", "1 1:3\n"),
            (3, 4, "1 1:3\n", "1 1:4\n"),
            (4, 5, "1 1:4\n", "2 1:3\n"),
        ):
            self.assertEqual(best_of(0, piece([(1, fret)]), FREE), (0, free))
            self.assertEqual(best_of(0, piece([(1, fret)]), alone(number)), (0, paid))

    def test_a_finger_is_paid_once_however_much_it_stops(self):
        for number, cost in ((1, 7), (2, 0), (3, 0), (4, 7)):
            self.assertEqual(best_of(0, piece(WIDE), alone(number, 7)), (cost, "4 1:4 2:1 3:1 4:1\n"))

    def test_a_finger_is_paid_at_each_moment(self):
        self.assertEqual(best_of(0, piece(WIDE, WIDE, WIDE), alone(1))[0], 3)
        self.assertEqual(best_of(1, piece(WIDE, [], []), alone(1))[0], 3)

    def test_w5_is_paid_for_each_fret_off_the_place(self):
        self.assertEqual(best_of(0, piece([(1, 5)]), alone(5)), (0, "2 1:4\n"))
        self.assertEqual(best_of(0, piece([(1, 3), (2, 8)]), alone(5)), (2, "4 1:1 2:4\n"))

    def test_w5_of_a_barre_counts_once(self):
        self.assertEqual(best_of(0, piece(WIDE), alone(5, 7)), (14, "4 1:4 2:1 3:1 4:1\n"))

    def test_w6_is_paid_for_a_barre(self):
        two = [(1, 1), (2, 1)]
        self.assertEqual(best_of(0, piece(two), FREE), (0, "1 1:1 2:1\n"))
        self.assertEqual(best_of(0, piece(two), alone(6)), (0, "1 1:2 2:1\n"))
        self.assertEqual(best_of(0, piece(WIDE), alone(6, 5)), (5, "4 1:4 2:1 3:1 4:1\n"))
        # Finger 1 on one place is no barre.
        self.assertEqual(best_of(0, piece([(1, 1)]), alone(6)), (0, "1 1:1\n"))

    def test_w7_is_paid_for_each_finger_that_leaves_its_place(self):
        self.assertEqual(best_of(0, piece([(1, 1)], [(2, 1)]), FREE), (0, "1 1:1\n1 2:1\n"))
        self.assertEqual(best_of(0, piece([(1, 1)], [(2, 1)]), alone(7)), (0, "1 1:1\n1 2:2\n"))
        for later, jumps in (
            (WIDE, 0),
            ([(1, 8), (4, 3), (5, 3), (6, 3)], 0),
            ([(1, 8), (5, 3), (6, 3)], 1),
            ([(2, 8), (5, 3), (6, 3)], 2),
            ([(2, 8), (3, 3), (4, 3)], 1),
        ):
            with self.subTest(later=later):
                self.assertEqual(best_of(0, piece(WIDE, later), alone(7))[0], jumps)
                self.assertEqual(best_of(0, piece(later, WIDE), alone(7, 200))[0], jumps * 200)

    def test_w7_asks_for_course_and_fret(self):
        # Each time fingers 1 and 4 alone, at one position: on the same courses, then on the same frets.
        self.assertEqual(best_of(0, piece([(1, 3), (2, 8)], [(1, 4), (2, 9)]), alone(7)), (2, "4 1:1 2:4\n5 1:1 2:4\n"))
        self.assertEqual(best_of(0, piece([(1, 3), (2, 8)], [(3, 3), (4, 8)]), alone(7)), (2, "4 1:1 2:4\n4 3:1 4:4\n"))

    def test_w7_is_not_paid_over_a_moment_between(self):
        self.assertEqual(best_of(0, piece(WIDE, [], [(2, 8), (5, 3), (6, 3)]), alone(7))[0], 0)

    def test_w8_is_paid_for_the_first_position_alone(self):
        self.assertEqual(best_of(0, piece([(1, 15)]), alone(8, 3)), (30, "11 1:4\n"))
        self.assertEqual(best_of(0, piece([(1, 15)], [(1, 1)]), alone(8, 3)), (30, "11 1:4\n1 1:1\n"))
        self.assertEqual(best_of(0, piece([(1, 1)], [(1, 15)]), alone(8, 3)), (0, "1 1:1\n11 1:4\n"))

    def test_all_nine(self):
        # Twice WIDE's grip: w1, w4, w6, two stretches each; no shift, two fingers that jump; w8 thrice.
        w = [200, 1, 100, 50, 2, 3, 4, 5, 6]
        later = [(2, 8), (5, 3), (6, 3)]
        cost = 2 * (1 + 2 + 4 + 2 * 3) + 2 * 5 + 3 * 6
        self.assertEqual(best_of(0, piece(WIDE, later), w), (cost, "4 1:4 2:1 3:1 4:1\n4 2:4 5:1 6:1\n"))

    def test_255_each(self):
        self.assertEqual(best_of(0, piece(WIDE), [255] * 9)[0], 255 * (1 + 1 + 2 + 1 + 3))


class Edges(unittest.TestCase):
    # Finger 1 alone costs nothing.
    w = [0, 0, 1, 1, 1, 0, 0, 0, 0]

    def test_nothing_held(self):
        for kind, ring in itertools.product(KINDS, range(3)):
            for w in (FREE, [9] * 9, [255] * 9):
                self.assertEqual(best_of(ring, piece([]), w, kind), (0, "1\n"))
                self.assertEqual(best_of(ring, piece([], BAR, [(1, 0), (14, 0)], []), w, kind), (0, "1\n1\n1\n"))

    def test_one_moment(self):
        for kind, ring in itertools.product(KINDS, range(3)):
            text = "5 1:3 3:2 5:1 6:1\n"
            stops = [(1, 7), (3, 6), (5, 5), (6, 5), (7, 0)]
            self.assertEqual(best_of(ring, piece(stops), [0, 0, 0, 0, 1, 1, 0, 0, 0], kind), (0, text))

    def test_a_stop_that_rings_on_keeps_its_finger(self):
        # At the second moment fret 2 wants a finger above that of fret 1, so it has it from the first on.
        lines = piece([(1, 2)], [(2, 1)])
        self.assertEqual(best_of(1, lines, self.w), (2, "1 1:2\n1 1:2 2:1\n"))
        self.assertEqual(best_of(2, lines, self.w), (2, "1 1:2\n1 1:2 2:1\n"))
        self.assertEqual(best_of(0, lines, self.w), (0, "1 1:1\n1 2:1\n"))

    def test_a_stop_struck_anew_may_change_its_finger(self):
        for ring in range(3):
            lines = piece([(1, 2)], [(1, 2), (2, 1)])
            self.assertEqual(best_of(ring, lines, self.w), (1, "1 1:1\n1 1:2 2:1\n"))

    def test_a_finger_is_kept_over_many_moments(self):
        lines = piece([(1, 2)], [], [], [], [(2, 1)])
        self.assertEqual(best_of(1, lines, self.w), (5, "1 1:2\n" * 4 + "1 1:2 2:1\n"))

    def test_bars_between_moments(self):
        lines = piece(BAR, [(1, 2)], BAR, BAR, [(2, 1)], BAR)
        self.assertEqual(best_of(1, lines, self.w), (2, "1 1:2\n1 1:2 2:1\n"))
        self.assertEqual(best_of(2, lines, self.w), (0, "1 1:1\n1 2:1\n"))
        self.assertEqual(best_of(0, lines, self.w), (0, "1 1:1\n1 2:1\n"))

    def test_no_plan_because_a_moment_has_no_grip(self):
        far = [(1, 1), (6, 15)]
        for kind, ring in itertools.product(KINDS, range(3)):
            for lines in (piece(far), piece(far, [], []), piece([], far, []), piece([], [], far)):
                self.assertEqual(best(ring, codes(piece_text(kind, lines)), FREE), [-3])

    def test_no_plan_because_of_what_rings_on(self):
        t = codes(piece_text("german", piece([(1, 1)], BAR, [(6, 15)])))
        self.assertEqual(best(1, t, FREE), [-3])
        for ring in (0, 2):
            self.assertEqual(cost_and_text(best(ring, t, FREE)), (0, "1 1:1\n11 6:4\n"))

    def test_no_plan_because_no_two_grips_go_together(self):
        # Finger 4 on course 1 first, with three lower frets beside it, then finger 1 with three greater ones.
        lines = piece([(1, 5), (2, 2), (3, 3), (4, 4)], [(2, 6), (3, 7), (4, 8)])
        for kind in KINDS:
            t = codes(piece_text(kind, lines))
            for ring in (1, 2):
                self.assertEqual(best(ring, t, FREE), [-3])
            self.assertGreaterEqual(best(0, t, FREE)[0], 0)
            anew = piece(lines[0][1], [(1, 5)] + lines[1][1])
            for ring in range(3):
                self.assertGreaterEqual(best(ring, codes(piece_text(kind, anew)), FREE)[0], 0)

    def test_a_dear_beginning_that_alone_can_go_on(self):
        w = [0, 0, 0, 0, 255, 0, 0, 0, 0]
        lines = piece([(1, 5)], [(2, 2), (3, 3), (4, 4)])
        self.assertEqual(best_of(1, lines, w), (510, "1 1:4\n1 1:4 2:1 3:2 4:3\n"))

    def test_positions_of_two_digits(self):
        self.assertEqual(best_of(0, piece([(1, 14)], [(1, 15)]), [1] + [0] * 8), (0, "11 1:3\n11 1:4\n"))
        self.assertEqual(best_of(0, piece([(1, 15)]), [0, 0, 1, 1, 1, 1, 0, 0, 0]), (0, "15 1:1\n"))
        self.assertEqual(best_of(0, piece([(1, 9)], [(1, 15)]), alone(4)), (0, "6 1:3\n12 1:3\n"))

    def test_courses_from_7_on_are_not_told(self):
        for kind in KINDS:
            lines = piece([(1, 1)] + [(course, 0) for course in range(7, 15)])
            self.assertEqual(best_of(1, lines, FREE, kind), (0, "1 1:1\n"))


class LongPieces(unittest.TestCase):
    def test_512_moments_of_the_same(self):
        stops = [(course, 3) for course in range(1, 6)] + [(6, 5)]
        t = codes(piece_text("german", [(8, stops)] * 512))
        # Fingers 1 and 3 each at its place, a barre, no shift: position 3 throughout.
        for ring in range(3):
            cost, text = cost_and_text(best(ring, t, [1, 1, 1, 1, 9, 2, 1, 1, 0]))
            self.assertEqual((cost, text), (512 * 3, "3 1:1 2:1 3:1 4:1 5:1 6:3\n" * 512))

    def test_512_moments_that_go_to_and_fro(self):
        later = [(2, 8), (5, 3), (6, 3)]
        cost, text = best_of(0, piece(*[WIDE, later] * 256), [1] * 9)
        self.assertEqual(text, "4 1:4 2:1 3:1 4:1\n4 2:4 5:1 6:1\n" * 256)
        self.assertEqual(cost, 512 * (1 + 1 + 2 + 1) + 511 * 2 + 3)

    def test_512_moments_that_ring_on(self):
        dice = Dice(512)
        moments = [[(course, 5) for course in range(1, 7)]]
        moments += [[(1 + dice.below(6), 5)] for _ in range(511)]
        cost, text = best_of(1, piece(*moments), [1, 1, 9, 9, 9, 1, 1, 1, 0])
        self.assertEqual((cost, text), (512 * 2, "5 1:1 2:1 3:1 4:1 5:1 6:1\n" * 512))

    def test_the_end_decides_of_the_beginning(self):
        # Course 1 rings on all the way, and only finger 4 can stop it in the end.
        lines = piece([(1, 5)], *[[]] * 510, [(2, 2), (3, 3), (4, 4)])
        cost, text = best_of(1, lines, alone(4))
        self.assertEqual((cost, text), (512, "1 1:4\n" * 511 + "1 1:4 2:1 3:2 4:3\n"))

    def test_no_plan_at_the_last_of_512(self):
        self.assertEqual(best(0, codes(piece_text("italian", piece(*[WIDE] * 511, [(1, 1), (2, 15)]))), FREE), [-3])


class Refusals(unittest.TestCase):
    long_one, none, good = [10] * 65537, codes("french\nq c....\n"), codes(GOOD)
    stuck = codes("french\nq b....q\n")
    wrong_weights = (
        [], [0], [0] * 8, [0] * 10, [0] * 12, [256] + [0] * 8, [0] * 8 + [256], [0] * 4 + [MOST] + [0] * 4,
        [256] * 9, [MOST] * 12, [255] * 8, [255] * 10,
    )

    def test_each(self):
        for ring in range(3):
            self.assertEqual(best(ring, self.long_one, FREE), [-2])
            self.assertEqual(best(ring, self.none, FREE), [-6])
            self.assertEqual(best(ring, [], FREE), [-6])
            self.assertEqual(best(ring, self.stuck, FREE), [-3])
            self.assertGreaterEqual(best(ring, self.good, [255] * 9)[0], 0)
            for w in self.wrong_weights:
                self.assertEqual(best(ring, self.good, w), [-1], w)
            for place in range(9):
                self.assertEqual(best(ring, self.good, alone(place, 256)), [-1])
                self.assertGreaterEqual(best(ring, self.good, alone(place, 255))[0], 0)
        for ring in (3, 4, 256, MOST):
            self.assertEqual(best(ring, self.good, FREE), [-1])

    def test_65536_bytes_are_looked_at(self):
        self.assertEqual(best(0, [10] * 65536, FREE), [-6])

    def test_order(self):
        for ring, w in ((3, FREE), (0, [0] * 8), (3, [256] * 9), (MOST, [])):
            self.assertEqual(best(ring, self.long_one, w), [-2])
            self.assertEqual(best(ring, self.none, w), [-6])
            self.assertEqual(best(ring, self.good, w), [-1])
            self.assertEqual(best(ring, self.stuck, w), [-1])


class WhatIsHandedIn(unittest.TestCase):
    def test_stays_as_it_was(self):
        texts = (GOOD, "german\nq k 3 +\n e\n", "italian\nx 555555\n", "french\nq b....q\n", "no piece", "x" * 65537)
        for text, ring, weights in itertools.product(texts, range(4), (FREE, [3] * 9, [1, 2], [300] * 9)):
            t, w = codes(text), list(weights)
            first = best(ring, t, w)
            self.assertEqual((t, w), (codes(text), weights))
            self.assertEqual((type(first), {type(number) for number in first}), (list, {int}))
            told = list(first)
            first.append(99)
            self.assertEqual(best(ring, t, w), told)
            self.assertEqual((t, w), (codes(text), weights))

    def test_names_of_the_arguments(self):
        answer = [0, 16] + codes("1 1:1\n1 1:1 2:2\n")
        self.assertEqual(lutefingers.hands.best(ring=1, t=codes(GOOD), w=FREE), answer)
        self.assertEqual(lutefingers.hands.best(1, codes(GOOD), FREE), answer)


if __name__ == "__main__":
    unittest.main()
