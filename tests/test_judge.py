"""What judge answers, and what it refuses."""

import itertools
import unittest

import lutefingers.hands
from helper import BAR, KINDS, Dice, Listing, alone, codes, piece_text, second_judge
from lutefingers.hands import best, judge

MOST = 2147483647
GOOD = "french\nq c.....\n|\n .d....\n"
PLAN = "1 1:1\n1 1:1 2:2\n"
FREE = [0] * 9
# One grip alone: position 4, finger 4 on fret 8, a barre on fret 3; both fingers a fret off their place.
WIDE = [(1, 8), (2, 3), (3, 3), (4, 3)]


def piece(*moments):
    return [line if line == BAR else (16, line) for line in moments]


def judged(ring, lines, w, text, kind="german"):
    return judge(ring, codes(piece_text(kind, lines)), w, codes(text))


class AgainstAListing(unittest.TestCase):
    def test_every_plan_is_judged_at_its_cost(self):
        dice = Dice(90)
        plans = 0
        for kind in KINDS * 6:
            lines = dice.listed_lines(250)
            t = codes(piece_text(kind, lines))
            for ring in range(3):
                listing = Listing(lines, ring)
                w = dice.weights()
                for cost, plan in listing.costs(w):
                    plans += 1
                    self.assertEqual(judge(ring, t, w, codes(listing.text(plan))), [cost], (lines, ring, w, plan))
        self.assertGreater(plans, 1000)

    def test_several_sets_of_weights(self):
        dice = Dice(91)
        for kind in KINDS * 4:
            lines = dice.listed_lines()
            t = codes(piece_text(kind, lines))
            for ring in range(3):
                listing = Listing(lines, ring)
                for w in [FREE, [255] * 9] + [alone(number, 1 + dice.below(255)) for number in range(9)]:
                    costs = listing.costs(w)
                    for cost, plan in [dice.one_of(costs) for _ in range(3) if costs]:
                        self.assertEqual(judge(ring, t, w, codes(listing.text(plan))), [cost], (lines, ring, w, plan))

    def test_what_best_tells(self):
        dice = Dice(92)
        for kind in KINDS * 10:
            lines = dice.lines(40, lambda: dice.near_stops(6) if dice.below(2) else [])
            t = codes(piece_text(kind, lines))
            for ring in range(3):
                w = dice.weights()
                answer = best(ring, t, w)
                if answer != [-3]:
                    self.assertEqual(judge(ring, t, w, answer[2:]), answer[:1])

    def test_any_grips_in_the_place_of_grips(self):
        dice = Dice(93)
        faults = [0, 0]
        for kind in KINDS * 25:
            lines = dice.listed_lines()
            t = codes(piece_text(kind, lines))
            for ring in range(3):
                listing = Listing(lines, ring)
                for _ in range(6):
                    # Each moment by itself has a grip, mostly; that fingers are kept is left to chance.
                    plan = [
                        dice.one_of(grips) if grips and dice.below(8) else
                        (1 + dice.below(16), tuple(1 + dice.below(4) for _ in stops))
                        for grips, stops in zip(listing.grips, listing.stops)
                    ]
                    text = listing.text(plan)
                    expected = second_judge(listing, [1] * 9, text)
                    self.assertEqual(judge(ring, t, [1] * 9, codes(text)), expected, (lines, ring, text))
                    faults[expected[0] == -5] += 1
        self.assertGreater(min(faults), 100)

    def test_every_single_byte_changed_left_out_or_put_in(self):
        w = [1, 2, 3, 4, 5, 6, 7, 8, 9]
        lines = piece([(1, 13)], BAR, [(2, 14), (6, 12)], [])
        t = codes(piece_text("german", lines))
        for ring in range(3):
            listing = Listing(lines, ring)
            for _, plan in listing.costs(w)[::100]:
                text = listing.text(plan)
                for place in range(len(text) + 1):
                    others = [text[:place] + text[place + 1:]]
                    for sign in "\n 0123456789:;/-+.a\x00\x0b\x3a\xb2\xff":
                        others += [text[:place] + sign + text[place + 1:], text[:place] + sign + text[place:]]
                    for other in others:
                        expected = second_judge(listing, w, other)
                        self.assertEqual(judge(ring, t, w, codes(other)), expected, (ring, other))

    def test_every_byte(self):
        t = codes(GOOD)
        for place in range(len(PLAN)):
            for byte in range(256):
                p = codes(PLAN)
                p[place] = byte
                listing = Listing(piece([(1, 2)], BAR, [(2, 3)]), 1)
                self.assertEqual(judge(1, t, FREE, p), second_judge(listing, FREE, bytes(p).decode("latin-1")), p)


class Costs(unittest.TestCase):
    # Two grips worked out by hand: fingers 1 and 4 with a barre, each finger a fret off its place.
    lines = piece(WIDE, [(2, 8), (5, 3), (6, 3)])
    text = "4 1:4 2:1 3:1 4:1\n4 2:4 5:1 6:1\n"

    def test_each_weight(self):
        for number, times in enumerate((0, 2, 0, 0, 2, 4, 2, 2, 3)):
            self.assertEqual(judged(0, self.lines, alone(number), self.text), [times])
            self.assertEqual(judged(0, self.lines, alone(number, 255), self.text), [255 * times])
        self.assertEqual(judged(0, self.lines, [1] * 9, self.text), [15])

    def test_shifts(self):
        lines = piece([], [], [], [])
        self.assertEqual(judged(0, lines, alone(0), "1\n15\n15\n3\n"), [26])
        self.assertEqual(judged(0, lines, alone(8, 2), "15\n1\n7\n3\n"), [28])
        self.assertEqual(judged(0, lines, [0, 9, 9, 9, 9, 9, 9, 9, 0], "15\n1\n7\n3\n"), [0])

    def test_a_plan_that_is_not_the_cheapest(self):
        self.assertEqual(judged(0, piece([(1, 5)]), [1, 1, 1, 1, 1, 1, 1, 1, 1], "6 1:1\n"), [7])
        self.assertEqual(judged(0, piece([(1, 5)]), [1, 1, 1, 1, 1, 1, 1, 1, 1], "1 1:4\n"), [2])

    def test_kept_places_do_not_jump(self):
        lines = piece([(1, 5)], [(2, 6)], [(1, 5)])
        self.assertEqual(judged(1, lines, alone(7), "5 1:1\n5 1:1 2:2\n5 1:1 2:2\n"), [0])
        self.assertEqual(judged(0, lines, alone(7), "5 1:1\n5 2:2\n5 1:1\n"), [0])
        self.assertEqual(judged(0, lines, alone(7), "5 1:1\n6 2:1\n5 1:1\n"), [2])


class Forms(unittest.TestCase):
    """-9: the first line that can't be so."""

    lines = piece([(1, 5), (3, 6)], BAR, [], [(2, 12)])
    rows = ["5 1:1 3:2", "1", "12 2:1"]

    def judged_with(self, number, row):
        rows = list(self.rows)
        rows[number] = row
        return judged(0, self.lines, FREE, "".join(row + "\n" for row in rows))

    def refused(self, number, *rows):
        for row in rows:
            with self.subTest(number=number, row=row):
                self.assertEqual(self.judged_with(number, row), [-9, number])

    def test_the_plan_itself(self):
        self.assertEqual(self.judged_with(0, self.rows[0]), [0])

    def test_a_byte_that_has_no_place_there(self):
        self.refused(0, "x 1:1 3:2", "5 1;1 3:2", "5\t1:1 3:2", "5 1:1 3:2\r", "5 1:a 3:2", "-5 1:1 3:2", "+5 1:1 3:2")
        self.refused(0, "5 1:1,3:2", "5 1:1 3:2?", "?", "5 1:\xb2 3:2", "\xb2 1:1 3:2", "5 1:1\x00 3:2", "5 1:+1 3:2")
        self.refused(0, "5_0 1:1 3:2", "5 1.1 3.2", "5: 1:1 3:2")
        self.refused(1, "x", "1x", "1:", ":", "\x00")
        self.refused(2, "l2 2:1", "12 2:I")

    def test_numbers(self):
        self.refused(0, " 1:1 3:2", "5 1: 3:2", "5 1:1 3:", "5 :1 3:2", "5 1:1 :2")
        self.refused(0, "1000 1:1 3:2", "5 1:1000 3:2", "5 1:1 3:1000", "5 1:1 3:9999", "5 1:1 3:11111111111")
        self.refused(0, "05 1:1 3:2", "5 1:01 3:2", "5 1:1 3:02", "00 1:1 3:2", "5 1:00 3:2", "5 1:1 3:000")
        self.refused(0, "5 01:1 3:2", "5 1:1 03:2", "005 1:1 3:2", "5 1:001 3:2")
        self.refused(1, "", "0000", "01", "00", "1000", "0001")

    def test_0_and_three_digits_are_of_the_form(self):
        for row in ("0 1:1 3:2", "5 1:0 3:2", "5 1:1 3:0", "999 1:1 3:2", "5 1:999 3:2", "5 1:1 3:100", "10 1:1 3:2"):
            self.assertEqual(self.judged_with(0, row), [-5, 0])
        for row in ("0", "16", "999", "100"):
            self.assertEqual(self.judged_with(1, row), [-5, 1])

    def test_courses(self):
        self.refused(0, "5 2:1 3:2", "5 1:1 4:2", "5 1:1 13:2", "5 1:1 30:2", "5 11:1 3:2", "5 0:1 3:2")
        self.refused(0, "5 1:1", "5 3:2", "5", "5 1:1 3:2 4:3", "5 1:1 2:2 3:2", "5 1:1 3:2 3:2", "5 1:1 1:1 3:2")
        self.refused(0, "5 3:2 1:1", "5 1:1 3:2 5:3 6:4", "5 1:1:3:2", "5 1:1 3:2:1", "5 1:1 3")
        self.refused(1, "1 1:1", "1 2:1", "1 7:1")
        self.refused(2, "12", "12 1:1", "12 1:1 2:1", "12 2:1 3:1", "12 12:1", "12 22:1")

    def test_blanks(self):
        self.refused(0, "5  1:1 3:2", "5 1:1  3:2", "5 1:1 3:2 ", " 5 1:1 3:2", "51:1 3:2", "5 1:13:2", "5 1: 1 3:2")
        self.refused(0, "5 1 :1 3:2", "5 1:1 3: 2", "5 1:1 3 :2", "5 1:1 3:2  ")
        self.refused(1, " 1", "1 ", " ", "1 1")

    def test_a_line_that_is_missing(self):
        for kept in range(3):
            text = "".join(row + "\n" for row in self.rows[:kept])
            self.assertEqual(judged(0, self.lines, FREE, text), [-9, kept])

    def test_a_line_left_out_is_seen_where_the_next_one_stands(self):
        self.assertEqual(judged(0, self.lines, FREE, "5 1:1 3:2\n12 2:1\n"), [-9, 1])
        self.assertEqual(judged(0, self.lines, FREE, "1\n12 2:1\n"), [-9, 0])

    def test_no_line_for_a_bar(self):
        self.assertEqual(judged(0, self.lines, FREE, "5 1:1 3:2\n|\n1\n12 2:1\n"), [-9, 1])
        self.assertEqual(judged(0, self.lines, FREE, "5 1:1 3:2\n\n1\n12 2:1\n"), [-9, 1])

    def test_a_line_too_many(self):
        whole = "".join(row + "\n" for row in self.rows)
        for more in ("1\n", "\n", "\n\n", "12 2:1\n", "x\n", "1\n1\n1\n", "1", "x", " ", "\n1", "12 2:1"):
            self.assertEqual(judged(0, self.lines, FREE, whole + more), [-9, 3], more)

    def test_behind_the_last_end_of_a_line(self):
        self.assertEqual(judged(0, self.lines, FREE, "5 1:1 3:2\n1\n12 2:1"), [-9, 2])
        self.assertEqual(judged(0, self.lines, FREE, "5 1:1 3:2\n1"), [-9, 1])
        self.assertEqual(judged(0, self.lines, FREE, "5 1:1 3:2"), [-9, 0])

    def test_no_text_at_all(self):
        self.assertEqual(judged(0, self.lines, FREE, ""), [-9, 0])
        self.assertEqual(judged(0, self.lines, FREE, "\n"), [-9, 0])
        self.assertEqual(judged(0, piece([]), FREE, ""), [-9, 0])

    def test_the_first_of_several(self):
        self.assertEqual(judged(0, self.lines, FREE, "5 1:1 3:2\n01\n12 2:1 \n\n"), [-9, 1])
        self.assertEqual(judged(0, self.lines, FREE, "x\nx\nx\nx\nx"), [-9, 0])

    def test_all_forms_come_before_any_grip(self):
        self.assertEqual(judged(0, self.lines, FREE, "0 1:1 3:2\n1\n12 2:x\n"), [-9, 2])
        self.assertEqual(judged(0, self.lines, FREE, "5 1:9 3:9\n99\n12 2:1\n\n"), [-9, 3])
        self.assertEqual(judged(0, self.lines, FREE, "5 1:9 3:9\n99\n"), [-9, 2])
        self.assertEqual(judged(1, piece([(1, 5)], []), FREE, "5 1:1\n4 1:2"), [-9, 1])

    def test_a_piece_without_a_plan(self):
        lines = piece([], [(1, 1), (2, 15)])
        self.assertEqual(judged(0, lines, FREE, "1\n1 1:1\n"), [-9, 1])
        self.assertEqual(judged(0, lines, FREE, "1\n1 1:1 2:4\n"), [-5, 1])


class Grips(unittest.TestCase):
    """-5: the first moment whose grip is none, or doesn't keep a finger."""

    def none_of(self, stops, *rows):
        for row in rows:
            with self.subTest(stops=stops, row=row):
                self.assertEqual(judged(0, piece(stops), FREE, row + "\n"), [-5, 0])

    def one_of(self, stops, *rows):
        for row in rows:
            with self.subTest(stops=stops, row=row):
                self.assertEqual(judged(0, piece(stops), FREE, row + "\n"), [0])

    def test_positions(self):
        self.one_of([], *[str(position) for position in range(1, 16)])
        self.none_of([], "0", "16", "17", "100", "999")
        self.one_of([(1, 1)], "1 1:1", "2 1:1", "1 1:2")
        # Finger 3 at position 0, and finger 1 at position 16, would reach them.
        self.none_of([(1, 1)], "0 1:1", "0 1:2", "0 1:3")
        self.one_of([(1, 15)], "15 1:1", "14 1:1", "11 1:4")
        self.none_of([(1, 15)], "16 1:1")

    def test_fingers(self):
        self.one_of([(1, 5)], "5 1:1", "4 1:2", "3 1:3", "2 1:4")
        # Finger 0 at position 6 and finger 5 at position 1 would reach fret 5 as well.
        self.none_of([(1, 5)], "6 1:0", "1 1:5", "5 1:0", "5 1:5", "5 1:100", "5 1:999", "1 1:6")

    def test_reach(self):
        for finger in range(1, 5):
            for off in (-1, 0, 1):
                self.one_of([(1, 8)], f"{8 - finger + 1 + off} 1:{finger}")
            self.none_of([(1, 8)], f"{8 - finger - 1} 1:{finger}", f"{8 - finger + 3} 1:{finger}")

    def test_one_place_a_finger(self):
        for finger in range(2, 5):
            position = 8 - finger + 1
            self.none_of([(1, 8), (2, 8)], f"{position} 1:{finger} 2:{finger}")
            self.none_of([(1, 8), (2, 9)], f"{position} 1:{finger} 2:{finger}")

    def test_barres(self):
        self.one_of([(1, 8), (2, 8)], "8 1:1 2:1")
        self.one_of([(1, 8), (3, 9), (6, 8)], "8 1:1 3:2 6:1")
        self.none_of([(1, 8), (2, 9)], "8 1:1 2:1")
        self.none_of([(1, 8), (2, 8), (3, 9)], "8 1:1 2:1 3:1")

    def test_order_of_fingers_and_frets(self):
        self.one_of([(1, 8), (2, 9)], "8 1:1 2:2", "7 1:2 2:3", "7 1:2 2:4")
        self.none_of([(1, 8), (2, 9)], "8 1:2 2:1", "7 1:3 2:2")
        self.one_of([(1, 9), (2, 8)], "8 1:2 2:1")
        self.none_of([(1, 9), (2, 8)], "8 1:1 2:2")

    def test_order_of_fingers_on_one_fret(self):
        self.one_of([(1, 8), (2, 8)], "8 1:2 2:1", "7 1:3 2:2", "6 1:4 2:3", "7 1:3 2:1", "6 1:4 2:2")
        self.none_of([(1, 8), (2, 8)], "8 1:1 2:2", "7 1:2 2:3", "6 1:3 2:4", "7 1:1 2:3", "6 1:2 2:4")

    def test_a_barre_beside_another_finger_on_its_fret(self):
        self.one_of([(1, 8), (2, 8), (3, 8)], "8 1:2 2:1 3:1")
        self.none_of([(1, 8), (2, 8), (3, 8)], "8 1:1 2:2 3:1", "8 1:1 2:1 3:2")

    def test_which_moment(self):
        lines = piece([(1, 5)], BAR, [(2, 6)], BAR, BAR, [(3, 7)])
        rows = ["5 1:1\n", "5 2:2\n", "5 3:3\n"]
        none = ["9 1:1\n", "0 2:2\n", "5 3:5\n"]
        self.assertEqual(judged(0, lines, FREE, "".join(rows)), [0])
        for wrong in itertools.product((False, True), repeat=3):
            text = "".join(none[k] if wrong[k] else rows[k] for k in range(3))
            self.assertEqual(judged(0, lines, FREE, text), [-5, wrong.index(True)] if any(wrong) else [0])


class KeptFingers(unittest.TestCase):
    lines = piece([(1, 5)], [(2, 6)], [], BAR, [(3, 7)])

    def test_kept(self):
        text = "5 1:1\n5 1:1 2:2\n5 1:1 2:2\n5 1:1 2:2 3:3\n"
        self.assertEqual(judged(1, self.lines, FREE, text), [0])
        self.assertEqual(judged(2, self.lines, FREE, "5 1:1\n5 1:1 2:2\n5 1:1 2:2\n5 3:3\n"), [0])

    def test_not_kept(self):
        for number, text in (
            (1, "4 1:2\n5 1:1 2:2\n5 1:1 2:2\n5 1:1 2:2 3:3\n"),
            (2, "5 1:1\n5 1:1 2:2\n4 1:2 2:3\n4 1:2 2:3 3:4\n"),
            (2, "5 1:1\n5 1:1 2:2\n5 1:1 2:3\n5 1:1 2:2 3:3\n"),
            (3, "5 1:1\n5 1:1 2:2\n5 1:1 2:2\n4 1:2 2:3 3:4\n"),
        ):
            self.assertEqual(judged(1, self.lines, FREE, text), [-5, number])

    def test_the_position_may_change(self):
        text = "6 1:1\n5 1:1 2:2\n6 1:1 2:2\n5 1:1 2:2 3:3\n"
        self.assertEqual(judged(1, self.lines, alone(0), text), [3])

    def test_struck_anew(self):
        lines = piece([(1, 5)], [(1, 5)])
        for ring in range(3):
            self.assertEqual(judged(ring, lines, FREE, "5 1:1\n4 1:2\n"), [0])

    def test_behind_a_bar(self):
        lines = piece([(1, 5)], BAR, [])
        self.assertEqual(judged(1, lines, FREE, "5 1:1\n4 1:2\n"), [-5, 1])
        self.assertEqual(judged(2, lines, FREE, "5 1:1\n4 1:2\n"), [-9, 1])
        self.assertEqual(judged(2, lines, FREE, "5 1:1\n4\n"), [0])

    def test_no_grip_and_no_kept_finger(self):
        lines = piece([(1, 5)], [], [])
        self.assertEqual(judged(1, lines, FREE, "5 1:1\n4 1:2\n0 1:2\n"), [-5, 1])
        self.assertEqual(judged(1, lines, FREE, "5 1:1\n0 1:1\n4 1:2\n"), [-5, 1])
        self.assertEqual(judged(1, lines, FREE, "0 1:1\n4 1:2\n4 1:2\n"), [-5, 0])
        self.assertEqual(judged(1, lines, FREE, "5 1:1\n5 1:1\n0 1:2\n"), [-5, 2])


class LongPlans(unittest.TestCase):
    stops = [(course, 3) for course in range(1, 6)] + [(6, 5)]
    row = "3 1:1 2:1 3:1 4:1 5:1 6:3\n"

    def test_512_lines(self):
        t = codes(piece_text("french", [(8, self.stops)] * 512))
        w = [1, 1, 1, 1, 9, 2, 1, 1, 7]
        for ring in range(3):
            self.assertEqual(judge(ring, t, w, codes(self.row * 512)), [512 * 3 + 14])
        self.assertEqual(judge(0, t, w, codes(self.row * 511)), [-9, 511])
        self.assertEqual(judge(0, t, w, codes(self.row * 513)), [-9, 512])
        self.assertEqual(judge(0, t, w, codes(self.row * 512 + "\n")), [-9, 512])
        self.assertEqual(judge(0, t, w, codes(self.row * 511 + self.row.replace("6:3", "6:1"))), [-5, 511])
        # Beginning a position lower saves 7, and costs two stretches and a shift.
        self.assertEqual(best(1, t, w)[0], 512 * 3 + 14 - 7 + 5)
        self.assertEqual(judge(1, t, w, best(1, t, w)[2:]), best(1, t, w)[:1])

    def test_512_lines_that_ring_on(self):
        t = codes(piece_text("german", piece(self.stops, *[[]] * 511)))
        self.assertEqual(judge(1, t, alone(6), codes(self.row * 512)), [512])
        other = "2 1:1 2:1 3:1 4:1 5:1 6:4\n"
        self.assertEqual(judge(1, t, alone(6), codes(self.row * 511 + other)), [-5, 511])
        self.assertEqual(judge(1, t, alone(6), codes(other * 512)), [512])

    def test_long_texts_that_are_none(self):
        t = codes(GOOD)
        for p in (codes("1" * 100000), codes(" " * 100000), codes(":" * 100000), [0] * 100000, [255] * 100000):
            self.assertEqual(judge(0, t, FREE, p), [-9, 0])
        self.assertEqual(judge(1, t, FREE, codes(PLAN) + [10] * 90000), [-9, 2])
        self.assertEqual(judge(1, t, FREE, codes(PLAN) + [49] * 90000), [-9, 2])


class Refusals(unittest.TestCase):
    long_one, none, good = [10] * 65537, codes("french\nq c....\n"), codes(GOOD)
    plan, long_plan = codes(PLAN), [49] * 262145
    wrong_weights = (
        [], [0], [0] * 8, [0] * 10, [0] * 12, [256] + [0] * 8, [0] * 8 + [256], [0] * 4 + [MOST] + [0] * 4,
        [256] * 9, [MOST] * 12, [255] * 8, [255] * 10,
    )

    def test_each(self):
        for ring in range(3):
            self.assertEqual(judge(ring, self.long_one, FREE, self.plan), [-2])
            self.assertEqual(judge(ring, self.good, FREE, self.long_plan), [-2])
            self.assertEqual(judge(ring, self.none, FREE, self.plan), [-6])
            self.assertEqual(judge(ring, [], FREE, self.plan), [-6])
            for w in self.wrong_weights:
                self.assertEqual(judge(ring, self.good, w, self.plan), [-1], w)
        for ring in (3, 4, 256, MOST):
            self.assertEqual(judge(ring, self.good, FREE, self.plan), [-1])
        self.assertEqual(judge(1, self.good, FREE, self.plan), [0])
        self.assertEqual(judge(1, self.good, FREE, self.plan + [10]), [-9, 2])
        self.assertEqual(judge(1, self.good, FREE, codes("1 1:2\n1 1:1 2:2\n")), [-5, 1])

    def test_the_most_bytes_are_looked_at(self):
        self.assertEqual(judge(0, [10] * 65536, FREE, self.plan), [-6])
        self.assertEqual(judge(0, self.good, FREE, self.long_plan[1:]), [-9, 0])

    def test_order(self):
        none, no_grip = codes("x"), codes("0 1:1\n1 1:1 2:2\n")
        for p in (self.plan, none, no_grip, []):
            for ring, w in ((3, FREE), (1, [0] * 8), (3, [256] * 9), (MOST, [])):
                self.assertEqual(judge(ring, self.long_one, w, p), [-2])
                self.assertEqual(judge(ring, self.none, w, p), [-6])
                self.assertEqual(judge(ring, self.good, w, p), [-1])
            self.assertEqual(judge(1, self.long_one, FREE, p), [-2])
            self.assertEqual(judge(1, self.none, FREE, p), [-6])
        for t in (self.long_one, self.none, self.good):
            for ring, w in ((1, FREE), (3, FREE), (1, [0] * 8), (3, [])):
                self.assertEqual(judge(ring, t, w, self.long_plan), [-2])


class WhatIsHandedIn(unittest.TestCase):
    def test_stays_as_it_was(self):
        texts = (GOOD, "german\nq k\n i\n", "french\nq b....q\n", "no piece", "x" * 65537)
        plans = (PLAN, "1 1:1\n1 2:2\n", "5 1:1\n0 2:2\n", "", "x", "1" * 262145)
        weights = ([0] * 9, [3] * 9, [1, 2], [300] * 9)
        for text, plan, ring, w_before in itertools.product(texts, plans, range(4), weights):
            t, w, p = codes(text), list(w_before), codes(plan)
            first = judge(ring, t, w, p)
            self.assertEqual((t, w, p), (codes(text), w_before, codes(plan)))
            self.assertEqual((type(first), {type(number) for number in first}), (list, {int}))
            self.assertEqual(len(first), 2 if first[0] in (-9, -5) else 1)
            told = list(first)
            first.append(99)
            self.assertEqual(judge(ring, t, w, p), told)
            self.assertEqual((t, w, p), (codes(text), w_before, codes(plan)))

    def test_names_of_the_arguments(self):
        self.assertEqual(lutefingers.hands.judge(ring=1, t=codes(GOOD), w=[1] * 9, p=codes(PLAN)), [6])
        self.assertEqual(lutefingers.hands.judge(1, codes(GOOD), [1] * 9, codes(PLAN)), [6])


if __name__ == "__main__":
    unittest.main()
