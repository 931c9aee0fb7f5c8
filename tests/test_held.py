"""What held answers of pieces as they should be."""

import copy
import unittest

import lutefingers.hands
from helper import BAR, KINDS, SIGN_OF_LENGTH, Dice, codes, piece_text, second_answer, second_lines
from lutefingers.hands import held


def answers(text, ring):
    """What held answers of each moment: one for each line that is no bar, behind the kind's."""
    rows = text.split("\n")[1:-1]
    moments = len(rows) - rows.count(BAR)
    return [held(ring, i, codes(text)) for i in range(moments)]


class OrdinaryPieces(unittest.TestCase):
    # The same piece three times, written out by hand.
    french = "french\nq c.a...\n|\ne ..d..b a\n ......\n|\n d.....\nw. ..a... /a 7\n"
    italian = "italian\nq ...0.2\n|\ne 1..3.. 7\n ......\n|\n .....3\nw. ...0.. 8 14\n"
    german = "german\nq k 3\n|\ne n A -7\n .\n|\n p\nw. 3 -8 -14\n"

    ringing_0 = [[1, 1, 2], [2, 3, 3, 6, 1], [0], [1, 1, 3], [0]]
    ringing_1 = [
        [1, 1, 2],
        [3, 1, 2, 3, 3, 6, 1],
        [3, 1, 2, 3, 3, 6, 1],
        [3, 1, 3, 3, 3, 6, 1],
        [2, 1, 3, 6, 1],
    ]
    ringing_2 = [[1, 1, 2], [2, 3, 3, 6, 1], [2, 3, 3, 6, 1], [1, 1, 3], [1, 1, 3]]

    def test_french(self):
        self.assertEqual(answers(self.french, 0), self.ringing_0)
        self.assertEqual(answers(self.french, 1), self.ringing_1)
        self.assertEqual(answers(self.french, 2), self.ringing_2)

    def test_italian(self):
        self.assertEqual(answers(self.italian, 0), self.ringing_0)
        self.assertEqual(answers(self.italian, 1), self.ringing_1)
        self.assertEqual(answers(self.italian, 2), self.ringing_2)

    def test_german(self):
        self.assertEqual(answers(self.german, 0), self.ringing_0)
        self.assertEqual(answers(self.german, 1), self.ringing_1)
        self.assertEqual(answers(self.german, 2), self.ringing_2)

    def test_many_pieces_against_a_second_reading(self):
        dice = Dice(2026)
        for kind in KINDS * 60:
            lines = dice.lines(14)
            text = piece_text(kind, lines)
            self.assertEqual(second_lines(text), lines)
            for ring in range(4):
                for i in range(len(lines) + 1):
                    with self.subTest(text=text, ring=ring, i=i):
                        self.assertEqual(held(ring, i, codes(text)), second_answer(ring, i, codes(text)))


class Ringing(unittest.TestCase):
    def both_kept_and_ended(self, text, expected_1, expected_2):
        self.assertEqual(answers(text, 1), expected_1)
        self.assertEqual(answers(text, 2), expected_2)

    def test_0_ends_with_the_moment(self):
        self.assertEqual(answers("french\nw b.....\nx .c....\n ......\n", 0), [[1, 1, 1], [1, 2, 2], [0]])

    def test_open_stops_are_never_held(self):
        for ring in range(3):
            self.assertEqual(answers("french\nq aaaaaa a /a //a ///a 4 5 6 7\n ......\n", ring), [[0], [0]])

    def test_an_open_stop_ends_what_its_course_sounded(self):
        for ring in (1, 2):
            text = "italian\nq ....53\n ....0.\n ......\n"
            self.assertEqual(answers(text, ring), [[2, 1, 3, 2, 5], [1, 1, 3], [1, 1, 3]])

    def test_a_course_struck_again(self):
        for ring in (1, 2):
            text = "french\nq .c....\n .f....\n .f....\n .b....\n"
            self.assertEqual(answers(text, ring), [[1, 2, 2], [1, 2, 5], [1, 2, 5], [1, 2, 1]])

    def test_a_stop_struck_again_later_sounds_until_then(self):
        text = "french\nq c.....\n .d....\n g.....\n"
        self.assertEqual(answers(text, 1), [[1, 1, 2], [2, 1, 2, 2, 3], [2, 1, 6, 2, 3]])

    def test_a_bass_ends_nothing_else(self):
        self.assertEqual(answers("french\nq c....c\n ...... a 7\n", 1)[1], [2, 1, 2, 6, 2])

    def test_told_by_courses_not_as_struck(self):
        text = "french\nq .....g\n ...f..\n e.....\n"
        self.assertEqual(answers(text, 1)[2], [3, 1, 4, 4, 5, 6, 6])

    def test_1_goes_on_to_the_piece_end(self):
        text = "french\nx c.....\n" + " ......\n" * 50
        self.assertEqual(answers(text, 1), [[1, 1, 2]] * 51)

    def test_a_bar_between(self):
        self.both_kept_and_ended(
            "french\nq c.....\n ......\n|\n ......\n",
            [[1, 1, 2], [1, 1, 2], [1, 1, 2]],
            [[1, 1, 2], [1, 1, 2], [0]],
        )

    def test_a_bar_straight_behind_a_moment_does_not_shorten_it(self):
        self.both_kept_and_ended("french\nq c.....\n|\n .d....\n", [[1, 1, 2], [2, 1, 2, 2, 3]], [[1, 1, 2], [1, 2, 3]])

    def test_a_bar_behind_the_last_moment(self):
        expected = [[1, 1, 2], [2, 1, 2, 2, 3]]
        self.both_kept_and_ended("french\nq c.....\n .d....\n|\n", expected, expected)

    def test_bars_in_a_row(self):
        self.both_kept_and_ended(
            "french\nq c.....\n|\n|\n|\n .d....\n ......\n|\n|\n",
            [[1, 1, 2], [2, 1, 2, 2, 3], [2, 1, 2, 2, 3]],
            [[1, 1, 2], [1, 2, 3], [1, 2, 3]],
        )

    def test_bars_ahead_of_the_first_moment(self):
        expected = [[1, 1, 2], [1, 1, 2]]
        self.both_kept_and_ended("french\n|\n|\nq c.....\n ......\n", expected, expected)

    def test_bars_are_no_moments(self):
        self.assertEqual(held(0, 1, codes("french\n|\nq c.....\n|\n|\n .e....\n")), [1, 2, 4])

    def test_a_bar_leaves_ringing_0_as_it_is(self):
        self.assertEqual(answers("french\nq c.....\n|\n .d....\n", 0), [[1, 1, 2], [1, 2, 3]])


class Signs(unittest.TestCase):
    """Each sign of each kind, by lists written out from the document."""

    def test_french_frets(self):
        for fret, sign in enumerate("abcdefghiklmnopq"):
            for course in range(1, 7):
                text = "french\nq " + "." * (course - 1) + sign + "." * (6 - course) + "\n"
                self.assertEqual(held(0, 0, codes(text)), [1, course, fret] if fret else [0])

    def test_italian_frets(self):
        for fret, sign in enumerate("0123456789xyzvuw"):
            for course in range(1, 7):
                text = "italian\nq " + "." * (6 - course) + sign + "." * (course - 1) + "\n"
                self.assertEqual(held(0, 0, codes(text)), [1, course, fret] if fret else [0])

    def test_german_crossings(self):
        # A row a fret, from course 5 on the left to course 1.
        rows = ["abcde", "fghik", "lmnop", "qrstv", "xyz&9"]
        for times in (1, 2, 3):
            for number, row in enumerate(rows):
                for course, sign in zip((5, 4, 3, 2, 1), row):
                    text = "german\nq " + sign * times + "\n"
                    self.assertEqual(held(1, 0, codes(text)), [1, course, number + 1 + 5 * (times - 1)])

    def test_german_crossings_of_the_document(self):
        self.assertEqual(held(0, 0, codes("german\nq a\n")), [1, 5, 1])
        self.assertEqual(held(0, 0, codes("german\nq e\n")), [1, 1, 1])
        self.assertEqual(held(0, 0, codes("german\nq aa\n")), [1, 5, 6])

    def test_german_open_courses(self):
        for course, sign in enumerate("54321+", start=1):
            # Struck open, a course lets go of what it sounded, and no other does.
            before = piece_text("german", [(16, [(c, 3) for c in range(1, 7)])])
            expected = [5] + [number for c in range(1, 7) if c != course for number in (c, 3)]
            self.assertEqual(held(1, 1, codes(before + " " + sign + "\n")), expected)

    def test_german_sixth_course(self):
        for fret, sign in enumerate("ABCDEFGHIKLMNOP", start=1):
            self.assertEqual(held(0, 0, codes("german\nq " + sign + "\n")), [1, 6, fret])

    def test_highest_frets(self):
        everything = [6] + [number for course in range(1, 7) for number in (course, 15)]
        for text in ("french\nq qqqqqq\n", "italian\nq wwwwww\n", "german\nq 999 &&& zzz yyy xxx P\n"):
            self.assertEqual(held(1, 0, codes(text)), everything)

    def test_basses(self):
        signs = {
            "french": ["a", "/a", "//a", "///a", "4", "5", "6", "7"],
            "italian": ["7", "8", "9", "10", "11", "12", "13", "14"],
            "german": ["-7", "-8", "-9", "-10", "-11", "-12", "-13", "-14"],
        }
        first = {"french": "q .c.... ", "italian": "q ....2. ", "german": "q i "}
        for kind in KINDS:
            for sign in signs[kind]:
                self.assertEqual(held(1, 0, codes(kind + "\n" + first[kind] + sign + "\n")), [1, 2, 2])
            for lower, higher in zip(signs[kind], signs[kind][1:]):
                row = first[kind] + lower + " " + higher + "\n"
                self.assertEqual(held(1, 0, codes(kind + "\n" + row)), [1, 2, 2])
            self.assertEqual(held(1, 0, codes(kind + "\n" + first[kind] + " ".join(signs[kind]) + "\n")), [1, 2, 2])

    def test_all_fourteen_courses(self):
        stops = [(course, 4 if course < 7 else 0) for course in range(1, 15)]
        expected = [6, 1, 4, 2, 4, 3, 4, 4, 4, 5, 4, 6, 4]
        for kind in KINDS:
            for ring in range(3):
                self.assertEqual(held(ring, 0, codes(piece_text(kind, [(1, stops)]))), expected)

    def test_no_stop(self):
        for text in ("french\nq ......\n", "italian\nq ......\n", "german\nq .\n"):
            for ring in range(3):
                self.assertEqual(held(ring, 0, codes(text)), [0])


class Lengths(unittest.TestCase):
    def test_each_length_behind_each(self):
        for first, first_sign in SIGN_OF_LENGTH.items():
            for second, second_sign in SIGN_OF_LENGTH.items():
                text = f"german\n{first_sign} a\n{second_sign} b\n"
                self.assertEqual(held(0, 1, codes(text)), [-6] if first == second else [1, 4, 1])

    def test_sign_left_out(self):
        for sign in SIGN_OF_LENGTH.values():
            for bars in ("", "|\n", "|\n|\n|\n"):
                text = f"french\n{sign} b.....\n{bars} .b....\n{bars} ..b...\n"
                self.assertEqual(held(0, 2, codes(text)), [1, 3, 1])

    def test_a_length_comes_back_with_its_sign(self):
        self.assertEqual(held(0, 2, codes("german\nq a\nq. b\nq c\n")), [1, 3, 1])

    def test_lengths_do_not_change_what_is_held(self):
        for length in SIGN_OF_LENGTH:
            text = piece_text("german", [(length, [(1, 3)]), (96, [(2, 2)]), BAR, (length, [])])
            self.assertEqual(answers(text, 1), [[1, 1, 3], [2, 1, 3, 2, 2], [2, 1, 3, 2, 2]])
            self.assertEqual(answers(text, 2), [[1, 1, 3], [2, 1, 3, 2, 2], [0]])


class Sizes(unittest.TestCase):
    def test_512_lines(self):
        for kind in KINDS:
            stops = [(course, 15 if course < 7 else 0) for course in range(1, 15)]
            lines = [(24 + 24 * (number % 2), stops) for number in range(512)]
            expected = [6] + [number for course in range(1, 7) for number in (course, 15)]
            text = piece_text(kind, lines)
            for i in (0, 511):
                self.assertEqual(held(1, i, codes(text)), expected)
            self.assertEqual(held(1, 512, codes(text)), [-4])

    def test_513_lines(self):
        for kind in KINDS:
            text = piece_text(kind, [(16, [(1, 1)])] * 512)
            self.assertEqual(held(1, 511, codes(text)), [1, 1, 1])
            self.assertEqual(held(1, 511, codes(text + "|\n")), [-6])
            self.assertEqual(held(1, 511, codes(piece_text(kind, [(16, [(1, 1)])] * 513))), [-6])

    def test_bars_count_as_lines(self):
        self.assertEqual(held(2, 0, codes("german\n" + "|\n" * 511 + "q a\n")), [1, 5, 1])
        self.assertEqual(held(2, 0, codes("german\n" + "|\n" * 512 + "q a\n")), [-6])
        self.assertEqual(held(2, 0, codes("german\nq a\n" + "|\n" * 511)), [1, 5, 1])
        self.assertEqual(held(2, 0, codes("german\nq a\n" + "|\n" * 512)), [-6])

    def test_an_unfinished_513th_line(self):
        self.assertEqual(held(2, 0, codes("german\nq a\n" + "|\n" * 511 + "|")), [-6])

    def test_one_line(self):
        self.assertEqual(answers("italian\nx .....1\n", 2), [[1, 1, 1]])


class WhatIsHandedIn(unittest.TestCase):
    def test_stays_as_it_was(self):
        texts = ["french\nq c.....\n|\n .d....\n", "german\nq k 3\n", "no piece", "", "x" * 65537]
        for text in texts:
            for ring in (0, 1, 2, 3):
                for i in (0, 1, 7):
                    t = codes(text)
                    before = copy.copy(t)
                    first = held(ring, i, t)
                    self.assertEqual(t, before)
                    first_told = list(first)
                    first.append(99)
                    self.assertEqual(held(ring, i, t), first_told)
                    self.assertEqual(t, before)

    def test_nothing_is_kept_from_one_piece_to_the_next(self):
        one, other = codes("french\nq cccccc\n"), codes("german\nq .\n")
        for ring in range(3):
            self.assertEqual(held(ring, 0, one)[0], 6)
            self.assertEqual(held(ring, 0, other), [0])

    def test_names_of_the_arguments(self):
        t = codes("french\nq c.....\n ......\n")
        self.assertEqual(lutefingers.hands.held(ring=1, i=1, t=t), [1, 1, 2])
        self.assertEqual(lutefingers.hands.held(0, 1, t), [0])

    def test_answers_are_lists_of_plain_whole_numbers(self):
        for text in ("french\nq c.....\n", "french\nq ......\n", "", "x" * 65537):
            for ring in (0, 1, 2, 3):
                for i in (0, 1):
                    answer = held(ring, i, codes(text))
                    self.assertIs(type(answer), list)
                    self.assertEqual({type(number) for number in answer}, {int})


if __name__ == "__main__":
    unittest.main()
