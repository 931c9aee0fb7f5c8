"""What stuck answers, and what it refuses."""

import itertools
import unittest

import lutefingers.hands
from helper import BAR, KINDS, Dice, Listing, codes, piece_text
from lutefingers.hands import best, grips, many, stuck

MOST = 2147483647
GOOD = "french\nq c.....\n|\n .d....\n"
FREE = [0] * 9
FAR = [(1, 1), (6, 15)]
# Finger 4 on course 1 first, with three lower frets beside it; then, if it rings on, finger 1.
FOURTH, FIRST = [(1, 5), (2, 2), (3, 3), (4, 4)], [(2, 6), (3, 7), (4, 8)]


def piece(*moments):
    return [line if line == BAR else (16, line) for line in moments]


def stuck_of(ring, lines, kind="german"):
    return stuck(ring, codes(piece_text(kind, lines)))


class AgainstAListing(unittest.TestCase):
    def check(self, kind, lines, ring):
        """Asks of a short piece; answers by how many moments it can't be played, and whether each has a grip."""
        listing = Listing(lines, ring)
        t = codes(piece_text(kind, lines))
        moments = max(k for k in range(listing.moments + 1) if listing.beginnings(k))
        with self.subTest(kind=kind, lines=lines, ring=ring):
            self.assertEqual(stuck(ring, t), [moments])
            if moments < listing.moments:
                self.assertEqual((best(ring, t, FREE), many(ring, t, FREE)), ([-3], [-3]))
            else:
                self.assertEqual(best(ring, t, FREE)[0], 0)
                self.assertEqual(many(ring, t, FREE), [0, len(listing.plans())])
        return listing.moments - moments, all(listing.grips)

    def test_short_pieces(self):
        dice = Dice(100)
        seen = []
        for kind in KINDS * 30:
            lines = dice.listed_lines()
            for ring in range(3):
                seen.append(self.check(kind, lines, ring))
        self.assertGreater(len([missing for missing, _ in seen if missing == 0]), 50)
        self.assertGreater(len([missing for missing, _ in seen if missing > 0]), 50)

    def test_pieces_that_ring_on(self):
        # Frets that lie close, so that it is mostly the kept fingers that end a plan.
        dice = Dice(101)
        not_kept = 0
        for kind in KINDS * 15:
            lowest = 1 + dice.below(8)
            lines = piece(*[
                [(course, lowest + dice.below(5)) for course in (1, 2, 3, 4) if dice.below(2)] for _ in range(4)
            ])
            for ring in (1, 2):
                if Listing(lines, ring).size() <= 5000:
                    missing, each = self.check(kind, lines, ring)
                    not_kept += missing > 0 and each
        self.assertGreater(not_kept, 10)


class Edges(unittest.TestCase):
    def test_a_first_moment_without_a_grip(self):
        for kind, ring in itertools.product(KINDS, range(3)):
            self.assertEqual(stuck_of(ring, piece(FAR), kind), [0])
            self.assertEqual(stuck_of(ring, piece(BAR, FAR, [], [(1, 1)]), kind), [0])

    def test_a_later_moment_without_a_grip(self):
        for kind, ring in itertools.product(KINDS, range(3)):
            self.assertEqual(stuck_of(ring, piece([], FAR), kind), [1])
            self.assertEqual(stuck_of(ring, piece([(2, 3)], [], BAR, [(2, 0)], BAR, BAR, FAR, [], FAR), kind), [3])

    def test_what_rings_on_leaves_no_grip(self):
        lines = piece([(1, 1)], [], BAR, [], [(6, 15)])
        self.assertEqual([stuck_of(ring, lines) for ring in range(3)], [[4], [3], [4]])

    def test_two_moments_that_do_not_go_together(self):
        lines = piece(FOURTH, FIRST)
        t = codes(piece_text("french", lines))
        for ring in (1, 2):
            self.assertGreater(min(grips(ring, 0, t), grips(ring, 1, t)), [0])
            self.assertEqual(stuck_of(ring, lines), [1])
            self.assertEqual(stuck_of(ring, piece([], *[FOURTH] * 3, FIRST, [], [])), [4])
            # Struck anew, course 1 may change its finger.
            self.assertEqual(stuck_of(ring, piece(FOURTH, [(1, 5)] + FIRST)), [2])
        self.assertEqual(stuck_of(0, lines), [2])

    def test_a_bar_lets_go(self):
        lines = piece(FOURTH, BAR, FIRST)
        self.assertEqual([stuck_of(ring, lines) for ring in range(3)], [[2], [1], [2]])

    def test_fingers_are_kept_over_moments_between(self):
        # Course 1 alone may have any finger, but it keeps the one that the first moment wants.
        let_go = [(2, 0), (3, 0), (4, 0)]
        self.assertEqual(stuck_of(1, piece(FOURTH, let_go, [], [], FIRST)), [4])
        self.assertEqual(stuck_of(1, piece(FOURTH, let_go, [(1, 5)], [], FIRST)), [5])

    def test_a_piece_that_can_be_played_whole(self):
        for kind, ring in itertools.product(KINDS, range(3)):
            self.assertEqual(stuck_of(ring, piece([]), kind), [1])
            self.assertEqual(stuck_of(ring, piece(BAR, [(1, 2)], BAR, BAR, [(2, 3)], [], BAR), kind), [3])

    def test_a_way_that_goes_on_from_one_grip_alone(self):
        # Twelve grips first, but only finger 4 from position 1 or 2 can be kept to the end.
        lines = piece([(1, 5)], [], [(2, 2), (3, 3), (4, 4)])
        self.assertEqual(stuck_of(1, lines), [3])
        # The one grip of the middle moment: a barre on fret 3 and finger 4 on fret 8, at position 4.
        lines = piece([(1, 8)], [(2, 3), (3, 3), (4, 3)], [(2, 0), (3, 0), (4, 0)], [(2, 7), (3, 6), (4, 5)])
        self.assertEqual(stuck_of(1, lines), [4])
        self.assertEqual(stuck_of(1, lines + piece([(2, 9), (3, 10), (4, 11)])), [4])


class LongPieces(unittest.TestCase):
    stops = [(course, 3) for course in range(1, 6)] + [(6, 5)]

    def test_512_moments(self):
        for kind, ring in itertools.product(KINDS, range(3)):
            self.assertEqual(stuck_of(ring, piece(*[self.stops] * 512), kind), [512])
        self.assertEqual(stuck_of(1, piece(self.stops, *[[]] * 511)), [512])

    def test_stuck_at_the_last(self):
        self.assertEqual(stuck_of(0, piece(*[self.stops] * 511, FAR)), [511])
        lines = piece(FOURTH, *[[]] * 510, FIRST)
        self.assertEqual([stuck_of(ring, lines) for ring in range(3)], [[512], [511], [511]])

    def test_bars_are_not_counted(self):
        self.assertEqual(stuck_of(2, piece(*[self.stops, BAR] * 256)), [256])


class Refusals(unittest.TestCase):
    long_one, none, good = [10] * 65537, codes("french\nq c....\n"), codes(GOOD)

    def test_each(self):
        for ring in range(3):
            self.assertEqual(stuck(ring, self.long_one), [-2])
            self.assertEqual(stuck(ring, self.none), [-6])
            self.assertEqual(stuck(ring, []), [-6])
            self.assertEqual(stuck(ring, self.good), [2])
        for ring in (3, 4, 256, MOST):
            self.assertEqual(stuck(ring, self.good), [-1])

    def test_65536_bytes_are_looked_at(self):
        self.assertEqual(stuck(0, [10] * 65536), [-6])

    def test_order(self):
        for ring in (3, MOST):
            self.assertEqual(stuck(ring, self.long_one), [-2])
            self.assertEqual(stuck(ring, self.none), [-6])
            self.assertEqual(stuck(ring, codes("french\nq b....q\n")), [-1])


class WhatIsHandedIn(unittest.TestCase):
    def test_stays_as_it_was(self):
        texts = (GOOD, "german\nq k 3 +\n e\n", "italian\nx 555555\n", "french\nq b....q\n", "no piece", "x" * 65537)
        for text, ring in itertools.product(texts, range(4)):
            t = codes(text)
            first = stuck(ring, t)
            self.assertEqual(t, codes(text))
            self.assertEqual((type(first), [type(number) for number in first]), (list, [int]))
            told = list(first)
            first.append(99)
            self.assertEqual(stuck(ring, t), told)
            self.assertEqual(t, codes(text))

    def test_names_of_the_arguments(self):
        self.assertEqual(lutefingers.hands.stuck(ring=1, t=codes(GOOD)), [2])
        self.assertEqual(lutefingers.hands.stuck(1, codes(GOOD)), [2])


if __name__ == "__main__":
    unittest.main()
