"""The six calls together: that they agree, and that none keeps anything from one time to the next."""

import inspect
import itertools
import unittest

import lutefingers.hands
from helper import BAR, KINDS, Dice, Listing, codes, piece_text
from lutefingers.hands import best, grips, held, judge, many, stuck

FREE = [0] * 9


class Interface(unittest.TestCase):
    def test_arguments(self):
        for name, arguments in (
            ("held", ["ring", "i", "t"]),
            ("grips", ["ring", "i", "t"]),
            ("best", ["ring", "t", "w"]),
            ("many", ["ring", "t", "w"]),
            ("judge", ["ring", "t", "w", "p"]),
            ("stuck", ["ring", "t"]),
        ):
            call = getattr(lutefingers.hands, name)
            self.assertEqual(list(inspect.signature(call).parameters), arguments)


class NothingIsKept(unittest.TestCase):
    lines = [(16, [(1, 2), (7, 0)]), BAR, (8, [(2, 3)]), (8, []), BAR, (24, [(1, 0), (3, 5)])]
    other_lines = [(8, [(1, 1), (6, 15)]), (8, [(4, 4)])]
    w = [2, 1, 1, 1, 3, 4, 5, 2, 1]

    def calls(self):
        """Each call with a piece of each kind, some refused among them, as (name, what is handed in)."""
        found = []
        for kind, ring in itertools.product(KINDS, range(4)):
            for lines in (self.lines, self.other_lines):
                t = codes(piece_text(kind, lines))
                p = codes("2 1:1\n2 1:1 2:2\n2 1:1 2:2\n2 2:2 3:4\n")
                found += [(held, (ring, 1, t)), (grips, (ring, 1, t)), (held, (ring, 9, t)), (grips, (ring, 9, t))]
                found += [(best, (ring, t, self.w)), (many, (ring, t, self.w)), (best, (ring, t, FREE))]
                found += [(judge, (ring, t, self.w, p)), (judge, (ring, t, self.w, p[:8])), (stuck, (ring, t))]
        found += [(stuck, (0, codes("no piece"))), (best, (0, [10] * 65537, self.w)), (many, (0, [], self.w))]
        return found

    def test_in_one_order_and_in_others(self):
        calls = self.calls()
        first = [call(*handed_in) for call, handed_in in calls]
        again = [call(*handed_in) for call, handed_in in calls]
        self.assertEqual(first, again)
        backwards = [call(*handed_in) for call, handed_in in reversed(calls)]
        self.assertEqual(first, backwards[::-1])
        # Each seventh one: their number and seven have no factor in common, so all are called.
        self.assertNotEqual(len(calls) % 7, 0)
        order = [7 * k % len(calls) for k in range(len(calls))]
        self.assertEqual(sorted(order), list(range(len(calls))))
        self.assertEqual([first[k] for k in order], [calls[k][0](*calls[k][1]) for k in order])
        self.assertEqual(calls, self.calls())

    def test_the_kinds_tell_the_same(self):
        for ring in range(3):
            told = []
            for kind in KINDS:
                t = codes(piece_text(kind, self.lines))
                one = [held(ring, i, t) + grips(ring, i, t) for i in range(4)]
                text = best(ring, t, self.w)
                told.append(one + [text, many(ring, t, self.w), judge(ring, t, self.w, text[2:]), stuck(ring, t)])
            self.assertEqual(told[0], told[1])
            self.assertEqual(told[0], told[2])
            self.assertEqual(told[0][-1], [4])


class AllTogether(unittest.TestCase):
    def test_the_calls_agree(self):
        dice = Dice(110)
        for kind in KINDS * 25:
            lines = dice.lines(60, lambda: dice.near_stops(6) if dice.below(3) == 0 else [])
            t = codes(piece_text(kind, lines))
            moments = sum(line != BAR for line in lines)
            for ring in range(3):
                w = dice.weights()
                told, counted, far = best(ring, t, w), many(ring, t, w), stuck(ring, t)
                if far == [moments]:
                    self.assertEqual(told[0], counted[0])
                    self.assertGreater(counted[1], 0)
                    self.assertEqual(judge(ring, t, w, told[2:]), [told[0]])
                    self.assertEqual(bytes(told[2:]).count(b"\n"), moments)
                else:
                    self.assertEqual((told, counted), ([-3], [-3]))
                    self.assertLess(far[0], moments)
                    self.shorter_by(kind, lines, ring, far[0])

    def shorter_by(self, kind, lines, ring, far):
        """The piece can be played as far as stuck tells, and no moment further."""
        places = [place for place, line in enumerate(lines) if line != BAR]
        further = codes(piece_text(kind, lines[:places[far] + 1]))
        self.assertEqual(best(ring, further, FREE), [-3])
        if far > 0:
            self.assertEqual(best(ring, codes(piece_text(kind, lines[:places[far]])), FREE)[0], 0)

    def test_every_short_piece_of_two_stops(self):
        # Two moments, of which the first rings on into the second: all frets of two courses that lie close.
        w = [1, 2, 3, 4, 5, 6, 7, 8, 9]
        for frets in itertools.product(range(1, 8), repeat=2):
            lines = [(16, [(2, frets[0])]), (16, [(5, frets[1])])]
            t = codes(piece_text("italian", lines))
            for ring in (0, 1):
                costs = sorted(Listing(lines, ring).costs(w))
                if not costs:
                    self.assertEqual((best(ring, t, w), stuck(ring, t)), ([-3], [1]))
                    continue
                number = len([cost for cost, _ in costs if cost == costs[0][0]])
                self.assertEqual(best(ring, t, w)[0], costs[0][0])
                self.assertEqual(many(ring, t, w), [costs[0][0], number])
                self.assertEqual(stuck(ring, t), [2])


if __name__ == "__main__":
    unittest.main()
