"""What held refuses, and in which order."""

import unittest

from helper import KINDS, codes, piece_text, second_answer
from lutefingers.hands import held

MOST = 2147483647
GOOD = "french\nq c.....\n|\n .d....\n"


class Refusals(unittest.TestCase):
    def test_too_many_bytes(self):
        for t in ([10] * 65537, codes("x" * 100000), codes(GOOD) + [0] * 65536, [255] * 65537):
            self.assertEqual(held(0, 0, t), [-2])

    def test_65536_bytes_are_looked_at(self):
        # No piece is so long: the most that 512 lines can say is far less.
        for t in ([10] * 65536, codes("x" * 65536), (codes(GOOD) + [10] * 65536)[:65536]):
            self.assertEqual(held(0, 0, t), [-6])

    def test_no_piece(self):
        for t in ([], [0], [255], [10], codes("french"), codes("french\n")):
            self.assertEqual(held(0, 0, t), [-6])

    def test_ring(self):
        for ring in (0, 1, 2):
            self.assertEqual(held(ring, 0, codes(GOOD)), [1, 1, 2])
        for ring in (3, 4, 255, 256, 65536, MOST):
            self.assertEqual(held(ring, 0, codes(GOOD)), [-1])

    def test_no_such_moment(self):
        for ring in (0, 1, 2):
            self.assertNotEqual(held(ring, 1, codes(GOOD)), [-4])
            for i in (2, 3, 512, MOST):
                self.assertEqual(held(ring, i, codes(GOOD)), [-4])

    def test_order(self):
        long_one, none, good = [10] * 65537, codes("french\nq c....\n"), codes(GOOD)
        self.assertEqual(held(3, 9, long_one), [-2])
        self.assertEqual(held(3, 0, long_one), [-2])
        self.assertEqual(held(0, 9, long_one), [-2])
        self.assertEqual(held(3, 9, none), [-6])
        self.assertEqual(held(3, 0, none), [-6])
        self.assertEqual(held(0, 9, none), [-6])
        self.assertEqual(held(3, 9, good), [-1])
        self.assertEqual(held(MOST, MOST, good), [-1])
        self.assertEqual(held(2, 9, good), [-4])


class TextsAtFault(unittest.TestCase):
    def refused(self, *texts):
        for text in texts:
            with self.subTest(text=text):
                self.assertEqual(held(0, 0, codes(text)), [-6])

    def taken(self, *texts):
        for text in texts:
            with self.subTest(text=text):
                self.assertGreaterEqual(held(0, 0, codes(text))[0], 0)

    def test_first_line(self):
        rest = "\nq .\n"
        self.taken("german" + rest)
        self.refused("German" + rest, "GERMAN" + rest, "germans" + rest, "germa" + rest, " german" + rest)
        self.refused("german " + rest, rest, "\ngerman" + rest, "spanish" + rest, "french" + rest)
        self.refused("q .\n", "|\nq .\n", "german\r\nq .\n", "german|\nq .\n", "frenchitalian" + rest)
        self.refused("italian\nq c.....\n", "french\nq 2.....\n", "german\nq c.....\n")

    def test_every_beginning_of_a_text(self):
        lines = [(16, [(1, 7), (6, 2), (7, 0), (14, 0)]), "|", (24, [(2, 0)]), (24, [])]
        for kind in KINDS:
            text = piece_text(kind, lines)
            ends = [place + 1 for place, sign in enumerate(text) if sign == "\n"][1:]
            for size in range(len(text) + 1):
                with self.subTest(text=text[:size]):
                    self.assertEqual(held(0, 0, codes(text[:size]))[0] == -6, size not in ends)

    def test_every_single_byte_changed(self):
        texts = [
            "french\n|\nq. b.....\n c....q\nx aaaaaa a /a //a 4 7\n",
            "italian\nq. .....1\n|\n 9....w\nx 000000 7 9 10 14\n",
            "german\n|\nq. 999 aa P\n .\nx e i + -9 -12\n ppp 4 P\n",
        ]
        self.taken(*texts)
        for text in texts:
            t = codes(text)
            for place in range(len(t)):
                for byte in range(256):
                    other = t[:place] + [byte] + t[place + 1:]
                    self.assertEqual(held(1, 1, other), second_answer(1, 1, other), (text, place, byte))

    def test_every_single_byte_left_out_or_put_in(self):
        for text in ("french\nt ab.... a ///a\n|\n ......\n", "italian\nt ....10 7 10\n|\n ......\n",
                     "german\nt aaa A -7 -10\n|\n .\n"):
            self.taken(text)
            t = codes(text)
            for place in range(len(t) + 1):
                shorter = t[:place] + t[place + 1:]
                self.assertEqual(held(2, 1, shorter), second_answer(2, 1, shorter), (text, place))
                for byte in codes("\n |.aAtx1/-+?\x00\xff"):
                    longer = t[:place] + [byte] + t[place:]
                    self.assertEqual(held(2, 1, longer), second_answer(2, 1, longer), (text, place, byte))

    def test_bars(self):
        self.taken("german\n|\nq .\n|\n")
        self.refused("german\n||\nq .\n", "german\n| \nq .\n", "german\n |\nq .\n", "german\nq .\n|", "german\n|q .\n")
        self.refused("german\nq .\n\n", "german\n\nq .\n", "german\nq .\n|\n\n")

    def test_no_moment(self):
        for kind in KINDS:
            self.refused(kind + "\n", kind + "\n|\n", kind + "\n|\n|\n|\n", kind + "\n" + "|\n" * 512)

    def test_first_moment_without_a_sign(self):
        self.refused("french\n ......\n", "italian\n ......\n", "german\n .\n", "german\n|\n .\n", "german\n .\nq .\n")

    def test_lengths(self):
        self.taken("german\nx .\n", "german\nt. .\n")
        self.refused("german\nx. .\n", "german\nq.. .\n", "german\n.q .\n", "german\nqq .\n", "german\nQ .\n")
        self.refused("german\na .\n", "german\n1 .\n", "german\nq.\n", "german\nq\n", "german\nq  .\n", "german\n. .\n")

    def test_a_sign_of_the_length_before(self):
        for sign in ("x", "t", "t.", "s", "s.", "e", "e.", "q", "q.", "h", "h.", "w", "w."):
            for bars in ("", "|\n", "|\n|\n"):
                self.taken(f"german\n{sign} .\n{bars} .\n")
                self.refused(f"german\n{sign} .\n{bars}{sign} .\n", f"german\n{sign} .\n{bars} .\n{sign} .\n")

    def test_french(self):
        self.taken("french\nq abcdef\n", "french\nq ghiklm\n", "french\nq nopq..\n")
        self.refused("french\nq j.....\n", "french\nq r.....\n", "french\nq A.....\n", "french\nq .....\n")
        self.refused("french\nq .......\n", "french\nq ......a\n", "french\nq ...... \n", "french\nq ......  a\n")
        self.refused("french\nq ...... b\n", "french\nq ...... /\n", "french\nq ...... ////a\n", "french\nq ...... /b\n")
        self.refused("french\nq ...... 3\n", "french\nq ...... 8\n", "french\nq ...... aa\n", "french\nq ...... a \n")
        self.refused("french\nq ...... 44\n", "french\nq ...... .\n", "french\nq\n", "french\nq \n", "french\nq ... ...\n")

    def test_italian(self):
        self.taken("italian\nq 012345\n", "italian\nq 6789xy\n", "italian\nq zvuw..\n")
        self.refused("italian\nq a.....\n", "italian\nq X.....\n", "italian\nq t.....\n", "italian\nq .....\n")
        self.refused("italian\nq .......\n", "italian\nq ......7\n", "italian\nq ...... \n", "italian\nq ......  7\n")
        self.refused("italian\nq ...... 6\n", "italian\nq ...... 1\n", "italian\nq ...... 15\n", "italian\nq ...... 0\n")
        self.refused("italian\nq ...... 07\n", "italian\nq ...... 70\n", "italian\nq ...... 100\n")
        self.refused("italian\nq ...... 7 \n", "italian\nq ...... .\n", "italian\nq \n", "italian\nq ...... 11 \n")

    def test_german(self):
        self.taken("german\nq .\n", "german\nq 5 4 3 2 1 + -7\n", "german\nq 9\n", "german\nq &&\n", "german\nq 999\n")
        self.refused("german\nq \n", "german\nq ..\n", "german\nq . 5\n", "german\nq 5 .\n", "german\nq  5\n")
        self.refused("german\nq 5 \n", "german\nq 5  4\n", "german\nq 0\n", "german\nq 6\n", "german\nq 55\n")
        self.refused("german\nq j\n", "german\nq u\n", "german\nq w\n", "german\nq J\n", "german\nq Q\n")
        self.refused("german\nq AA\n", "german\nq ++\n", "german\nq -\n", "german\nq -6\n", "german\nq -15\n")
        self.refused("german\nq -1\n", "german\nq -07\n", "german\nq --7\n", "german\nq -77\n", "german\nq ab\n")
        self.refused("german\nq aaaa\n", "german\nq 9999\n", "german\nq aab\n", "german\nq aba\n", "german\nq a.\n")

    def test_courses_not_in_order(self):
        self.taken("french\nq ...... a /a\n", "italian\nq ...... 9 10\n", "german\nq e d -7\n")
        self.refused("french\nq ...... /a a\n", "french\nq ...... a a\n", "french\nq ...... 4 ///a\n")
        self.refused("french\nq ...... 7 7\n", "french\nq ...... a 7 6\n")
        self.refused("italian\nq ...... 8 7\n", "italian\nq ...... 7 7\n", "italian\nq ...... 10 9\n")
        self.refused("italian\nq ...... 14 14\n", "italian\nq ...... 7 14 13\n")
        self.refused("german\nq d e\n", "german\nq e e\n", "german\nq e k\n", "german\nq 5 e\n", "german\nq A a\n")
        self.refused("german\nq + A\n", "german\nq -7 +\n", "german\nq -8 -7\n", "german\nq -10 -9\n", "german\nq -7 -7\n")
        self.refused("german\nq 1 2 3 4 5\n", "german\nq 5 4 3 1 2\n", "german\nq eee kk\n")

    def test_a_fault_in_a_later_line(self):
        for line in ("q ......", "e .....j", " ...... a a", "", "| ", " ....."):
            self.refused("french\nq c.....\n|\n" + line + "\n .d....\n")
        self.taken("french\nq c.....\n|\n ......\n .d....\n")

    def test_kinds_are_not_mixed(self):
        self.refused("french\nq c.....\nitalian\n .....2\n", "french\nq c.....\n .....2\n", "german\nq a\n aab...\n")


if __name__ == "__main__":
    unittest.main()
