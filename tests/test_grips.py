"""What grips answers, and what it refuses."""

import itertools
import unittest

import lutefingers.hands
from helper import BAR, KINDS, Dice, codes, piece_text, second_grips, second_held
from lutefingers.hands import grips

MOST = 2147483647
GOOD = "french\nq c.....\n|\n .d....\n"


def number_of_grips(*stops):
    """What grips answers of a single moment with these stops."""
    return grips(0, 0, codes(piece_text("italian", [(16, sorted(stops))])))


class AgainstAPlainCounting(unittest.TestCase):
    def check_pieces(self, seed, times, stops_of):
        dice = Dice(seed)
        for kind in KINDS * times:
            lines = dice.lines(8, lambda: stops_of(dice))
            t = codes(piece_text(kind, lines))
            moments = sum(line != BAR for line in lines)
            for ring, i in itertools.product(range(3), range(moments)):
                with self.subTest(kind=kind, lines=lines, ring=ring, i=i):
                    stops = tuple(second_held(lines, ring, i))
                    self.assertEqual(grips(ring, i, t), [len(second_grips(stops))])

    def test_pieces_of_stops_that_lie_close(self):
        self.check_pieces(5, 20, Dice.near_stops)

    def test_pieces_of_any_stops(self):
        self.check_pieces(6, 6, Dice.stops)

    def test_every_stop_by_itself(self):
        for course, fret in itertools.product(range(1, 7), range(1, 16)):
            self.assertEqual(number_of_grips((course, fret)), [len(second_grips(((course, fret),)))])

    def test_every_two_frets(self):
        for higher, lower in itertools.product(range(1, 16), repeat=2):
            stops = ((2, higher), (5, lower))
            self.assertEqual(number_of_grips(*stops), [len(second_grips(stops))], stops)

    def test_three_frets_that_lie_close(self):
        for frets in itertools.product(range(6, 12), repeat=3):
            stops = tuple(zip((1, 3, 6), frets))
            self.assertEqual(number_of_grips(*stops), [len(second_grips(stops))], stops)


class Edges(unittest.TestCase):
    def test_nothing_held(self):
        for text in ("french\nq ......\n", "italian\nq 000000 7 14\n", "german\nq .\n"):
            for ring in range(3):
                self.assertEqual(grips(ring, 0, codes(text)), [15])

    def test_nothing_held_any_more(self):
        t = codes("french\nq c.....\n|\n ......\n a.....\n")
        self.assertEqual([grips(0, i, t) for i in range(3)], [[6], [15], [15]])
        self.assertEqual([grips(1, i, t) for i in range(3)], [[6], [6], [15]])
        self.assertEqual([grips(2, i, t) for i in range(3)], [[6], [15], [15]])

    def test_one_stop(self):
        # Each finger reaches a fret from three positions, as far as these lie from 1 to 15.
        expected = [3, 6, 9, 11, 12, 12, 12, 12, 12, 12, 12, 12, 12, 12, 11]
        for fret, number in enumerate(expected, start=1):
            for course in range(1, 7):
                self.assertEqual(number_of_grips((course, fret)), [number])

    def test_a_barre_or_two_fingers_on_one_fret(self):
        # Both under finger 1 from 3 positions; else the lower finger on course 2: 2 and 1 (twice), 2 and 3 (twice),
        # 3 and 4 (twice), 1 and 3 (once), 2 and 4 (once).
        self.assertEqual(number_of_grips((1, 5), (2, 5)), [11])
        self.assertEqual(number_of_grips((1, 5), (6, 5)), [11])

    def test_six_stops_on_one_fret(self):
        # All six under finger 1 thrice; five, and course 1 under finger 2 twice, under 3 once; four, and 3 and 2.
        self.assertEqual(number_of_grips(*[(course, 5) for course in range(1, 7)]), [7])

    def test_six_stops_on_four_frets(self):
        # A barre at 5, fingers 2, 3, 4 each on its fret: positions 4, 5, 6 reach them all.
        self.assertEqual(number_of_grips((1, 8), (2, 7), (3, 6), (4, 5), (5, 5), (6, 5)), [3])

    def test_a_barre_and_one_fret_above_it(self):
        # A barre of four, with finger 2, 3 or 4 above it: 3, 2 and 1. A barre of three, course 1 under finger 2:
        # 2 and 1; under finger 3: 1. A barre of two, with 3 and 2: 1.
        self.assertEqual(number_of_grips((1, 4), (2, 4), (3, 4), (4, 4), (5, 5)), [11])
        self.assertEqual(number_of_grips((1, 5), (2, 4), (3, 4), (4, 4), (5, 4)), [11])

    def test_a_barre_never_lies_above_another_finger(self):
        # Four on the greater fret want finger 1 among them, and the lower fret a finger below it.
        self.assertEqual(number_of_grips((1, 5), (2, 5), (3, 5), (4, 5), (5, 4)), [0])

    def test_other_fingers_stop_one_place_alone(self):
        # Finger 1 takes the three of the lower fret, so the others are left with one each, or with none.
        self.assertEqual(number_of_grips((1, 4), (2, 4), (3, 4), (4, 5), (5, 5), (6, 5)), [1])
        self.assertEqual(number_of_grips((1, 4), (2, 4), (3, 5), (4, 5), (5, 5), (6, 5)), [0])
        self.assertEqual(number_of_grips((1, 4), (2, 5), (3, 6), (4, 7), (5, 8)), [0])

    def test_far_apart(self):
        # Finger 1 a fret below its place and finger 4 one above: five frets between them at most.
        self.assertEqual(number_of_grips((1, 3), (2, 8)), [1])
        self.assertEqual(number_of_grips((1, 3), (2, 9)), [0])
        self.assertEqual(number_of_grips((1, 1), (2, 15)), [0])
        self.assertEqual(number_of_grips((1, 15), (2, 1)), [0])
        self.assertEqual(number_of_grips(*[(course, 2 * course) for course in range(1, 7)]), [0])

    def test_lowest_and_highest_position(self):
        # Fingers 1 and 4 at 1 and 2, 1 and 3 at 2, 2 and 4 at 1; one fret more, and 1 and 4 at 2 alone.
        self.assertEqual(number_of_grips((1, 1), (2, 5)), [4])
        self.assertEqual(number_of_grips((1, 1), (2, 6)), [1])
        self.assertEqual(number_of_grips((1, 1), (2, 7)), [0])
        # Position 16 would do for finger 1 on fret 15, but there is none.
        self.assertEqual(number_of_grips((1, 15), (2, 15), (3, 15), (4, 15), (5, 15), (6, 15)), [6])

    def test_stops_that_ring_on(self):
        t = codes("french\nq .....d\n ....d.\n ...d..\n|\n ..d...\n .d....\n d.....\n")
        for ring in (1, 2):
            self.assertEqual(grips(ring, 0, t), number_of_grips((6, 3)))
            self.assertEqual(grips(ring, 2, t), number_of_grips((4, 3), (5, 3), (6, 3)))
        self.assertEqual(grips(1, 5, t), number_of_grips(*[(course, 3) for course in range(1, 7)]))
        self.assertEqual(grips(2, 5, t), number_of_grips(*[(course, 3) for course in range(1, 4)]))
        self.assertEqual([grips(0, i, t) for i in range(6)], [[9]] * 6)

    def test_what_rings_on_leaves_no_grip(self):
        t = codes("german\nq A\n 9\n")
        self.assertEqual(grips(0, 1, t), number_of_grips((1, 5)))
        self.assertEqual(grips(1, 1, t), number_of_grips((1, 5), (6, 1)))
        t = codes("german\nq A\n 999\n")
        self.assertEqual([grips(0, 1, t), grips(1, 1, t), grips(2, 1, t)], [[11], [0], [0]])

    def test_the_last_of_512_moments(self):
        t = codes(piece_text("german", [(8, [(1, 5), (2, 5)])] * 512))
        self.assertEqual(grips(1, 511, t), [11])
        self.assertEqual(grips(1, 512, t), [-4])


class Refusals(unittest.TestCase):
    long_one, none, good = [10] * 65537, codes("french\nq c....\n"), codes(GOOD)

    def test_each(self):
        for ring in range(3):
            self.assertEqual(grips(ring, 0, self.long_one), [-2])
            self.assertEqual(grips(ring, 0, self.none), [-6])
            self.assertEqual(grips(ring, 0, []), [-6])
            self.assertEqual(grips(ring, 1, self.good)[0] > 0, True)
            for i in (2, 3, MOST):
                self.assertEqual(grips(ring, i, self.good), [-4])
        for ring in (3, 4, 256, MOST):
            self.assertEqual(grips(ring, 0, self.good), [-1])

    def test_65536_bytes_are_looked_at(self):
        self.assertEqual(grips(0, 0, [10] * 65536), [-6])

    def test_order(self):
        self.assertEqual(grips(3, 9, self.long_one), [-2])
        self.assertEqual(grips(3, 0, self.long_one), [-2])
        self.assertEqual(grips(0, 9, self.long_one), [-2])
        self.assertEqual(grips(3, 9, self.none), [-6])
        self.assertEqual(grips(3, 0, self.none), [-6])
        self.assertEqual(grips(0, 9, self.none), [-6])
        self.assertEqual(grips(3, 9, self.good), [-1])
        self.assertEqual(grips(MOST, MOST, self.good), [-1])
        self.assertEqual(grips(2, 2, self.good), [-4])


class WhatIsHandedIn(unittest.TestCase):
    def test_stays_as_it_was(self):
        for text in (GOOD, "german\nq k 3 +\n", "italian\nx 555555\n", "no piece", "", "x" * 65537):
            for ring, i in itertools.product((0, 1, 2, 3), (0, 1, 7)):
                t = codes(text)
                before = list(t)
                first = grips(ring, i, t)
                self.assertEqual(t, before)
                self.assertEqual((type(first), [type(number) for number in first]), (list, [int]))
                told = list(first)
                first.append(99)
                self.assertEqual(grips(ring, i, t), told)
                self.assertEqual(t, before)

    def test_names_of_the_arguments(self):
        self.assertEqual(lutefingers.hands.grips(ring=1, i=0, t=codes(GOOD)), [6])
        self.assertEqual(lutefingers.hands.grips(1, 0, codes(GOOD)), [6])


if __name__ == "__main__":
    unittest.main()
