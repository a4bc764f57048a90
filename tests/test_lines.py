import random
import re
import unittest

from scriberow.errors import NoLine, RowError
from scriberow.lines import read, shown
from scriberow.story import writings_after

HUNDRED = 10**100 - 1
GOOD = "4 1 0 oak"


class Shown(unittest.TestCase):
    def test_ordinary(self):
        self.assertEqual(shown([(4, 1, 0, "oak"), (10, 2, 305, "a")]), ["4 1 0 oak", "10 2 305 a"])

    def test_none(self):
        self.assertEqual(shown([]), [])

    def test_nought_is_one_figure(self):
        self.assertEqual(shown([(0, 0, 0, "z")]), ["0 0 0 z"])

    def test_order_and_repetition_stay(self):
        self.assertEqual(shown([(2, 0, 0, "b"), (1, 0, 0, "a"), (2, 0, 0, "b")]), ["2 0 0 b", "1 0 0 a", "2 0 0 b"])

    def test_long_numbers(self):
        self.assertEqual(shown([(HUNDRED, 99, HUNDRED, "a")]), ["9" * 100 + " 99 " + "9" * 100 + " a"])
        self.assertEqual(shown([(10**300, 0, 0, "a")]), ["1" + "0" * 300 + " 0 0 a"])

    def test_what_is_handed_in_stays_and_is_not_kept(self):
        writings = [(4, 1, 0, "oak")]
        lines = shown(writings)
        self.assertEqual(writings, [(4, 1, 0, "oak")])
        writings.append((1, 1, 1, "b"))
        self.assertEqual(lines, ["4 1 0 oak"])


class Read(unittest.TestCase):
    def test_ordinary(self):
        found = read(3, ["4 1 0 oak", "10 2 305 a"])
        self.assertEqual(found, [(4, 1, 0, "oak"), (10, 2, 305, "a")])
        self.assertEqual([part.__class__ for part in found[0]], [int, int, int, str])
        self.assertIs(found[0].__class__, tuple)
        self.assertIs(found.__class__, list)

    def test_none(self):
        self.assertEqual(read(1, []), [])

    def test_edges(self):
        self.assertEqual(read(1, ["0 0 0 a"]), [(0, 0, 0, "a")])
        self.assertEqual(read(11, ["100 10 1000 z"]), [(100, 10, 1000, "z")])
        self.assertEqual(read(1, ["1234567890 0 9876543210 abcdefghijklmnopqrstuvwxyz"]),
                         [(1234567890, 0, 9876543210, "abcdefghijklmnopqrstuvwxyz")])

    def test_long_numbers_and_sayings(self):
        for figures in (100, 101, 400, 5000):
            self.assertEqual(read(1, ["1" + "0" * figures + " 0 0 a", "0 0 2" + "0" * figures + " a"]),
                             [(10**figures, 0, 0, "a"), (0, 0, 2 * 10**figures, "a")])
        self.assertEqual(read(1, ["0 0 0 " + "ab" * 3000]), [(0, 0, 0, "ab" * 3000)])

    def test_the_number_need_not_be_the_scribes_own(self):
        self.assertEqual(read(3, ["4 0 0 a", "4 2 0 a"]), [(4, 0, 0, "a"), (4, 2, 0, "a")])

    def test_the_same_line_twice_and_two_sayings_at_one_place(self):
        self.assertEqual(read(1, ["0 0 0 a", "0 0 0 a", "0 0 0 b"]), [(0, 0, 0, "a"), (0, 0, 0, "a"), (0, 0, 0, "b")])

    def test_back_to_what_was_shown(self):
        chance = random.Random(15)
        for _ in range(200):
            count = chance.randint(1, 100)
            writings = [
                (chance.randrange(10 ** chance.randint(0, 100)), chance.randrange(count),
                 chance.randrange(10 ** chance.randint(0, 3)), "".join(chance.choices("abcxyz", k=chance.randint(1, 9))))
                for _ in range(chance.randint(0, 12))
            ]
            self.assertEqual(read(count, shown(writings)), writings)
            self.assertEqual(shown(read(count, shown(writings))), shown(writings))

    def test_back_to_a_story(self):
        deeds = [("rise", 2), ("ask", 2, 0), ("ask", 2, 1), ("say", 2, "oak"), ("write", 2, 0, 0), ("write", 2, 1, 0)]
        self.assertEqual(shown(writings_after(3, deeds)), ["2 0 0 oak", "2 1 0 oak"])
        self.assertEqual(read(3, shown(writings_after(3, deeds))), writings_after(3, deeds))

    def test_four_hundred_and_beyond(self):
        for many in (400, 1000):
            writings = [(HUNDRED + step, step % 100, step, "saying") for step in range(many)]
            self.assertEqual(read(100, shown(writings)), writings)

    def test_what_is_handed_in_stays_and_is_not_kept(self):
        lines = ["4 1 0 oak"]
        writings = read(3, lines)
        self.assertEqual(lines, ["4 1 0 oak"])
        lines.append("1 1 1 b")
        self.assertEqual(writings, [(4, 1, 0, "oak")])


class Refused(unittest.TestCase):
    def refused(self, count, *bad):
        """Each is refused by itself and with good lines ahead of it, behind it, and round it."""
        for line in bad:
            for lines in ([line], [GOOD, line], [line, GOOD], [GOOD, line, GOOD], [line, line]):
                with self.subTest(lines=lines):
                    before = list(lines)
                    self.assertRaises(NoLine, read, count, lines)
                    self.assertEqual(lines, before)
        self.assertEqual(read(count, [GOOD]), [(4, 1, 0, "oak")])

    def test_as_a_row_error_too(self):
        self.assertRaises(RowError, read, 3, ["nothing"])

    def test_a_leading_nought(self):
        self.refused(3, "04 1 0 oak", "4 01 0 oak", "4 1 00 oak", "00 1 0 oak", "4 00 0 oak", "4 1 01 oak", "000 1 0 oak")

    def test_a_sign(self):
        self.refused(3, "-4 1 0 oak", "+4 1 0 oak", "4 +1 0 oak", "4 -1 0 oak", "4 1 -0 oak", "4 1 +0 oak", "4 -0 0 oak")

    def test_blanks(self):
        self.refused(3, " 4 1 0 oak", "4 1 0 oak ", "4  1 0 oak", "4 1  0 oak", "4 1 0  oak", "41 0 oak", "4 10 oak",
                     "4 1 0oak", "410oak", "4 1 0 oak  ", "  4 1 0 oak", " ", "   ", "4 1 0 ", " 1 0 oak", "4  0 oak",
                     "4 1  oak", "4 1 0 o ak")

    def test_other_signs_between(self):
        self.refused(3, "4\t1\t0\toak", "4 1 0\toak", "4 1\n0 oak", "4 1 0 oak\n", "\n4 1 0 oak", "4 1 0 oak\r",
                     "4\u00a01 0 oak", "4,1,0,oak", "4 1 0 oak\n4 1 0 oak", "4 1 0\u2003oak")

    def test_letters(self):
        self.refused(3, "4 1 0 Oak", "4 1 0 oaK", "4 1 0 OAK", "4 1 0 o-k", "4 1 0 o4k", "4 1 0 4", "4 1 0 \u00e4", "4 1 0 \u0430",
                     "4 1 0 o_k", "4 1 0 oak.", "4 1 0 `", "4 1 0 {", "4 1 0 \u00aa", "4 1 0 \u00df", "4 1 0 \ud800", "4 1 0 'a'")

    def test_figures(self):
        self.refused(3, "\u0664 1 0 oak", "4 \u0661 0 oak", "4 1 \u0660 oak", "\u00b2 1 0 oak", "4 \uff11 0 oak", "4_0 1 0 oak",
                     "4.0 1 0 oak", "4e1 1 0 oak", "0x4 1 0 oak", "a 1 0 oak", "4 b 0 oak", "4 1 c oak", "4 1 0/ oak", "4 1 : oak",
                     "four 1 0 oak", "4\u0664 1 0 oak", "4 1 1\u00b2 oak")

    def test_every_other_sign(self):
        for sign in map(chr, range(0x250)):
            if sign not in "0123456789":
                for line in (f"4{sign} 1 0 oak", f"4 {sign} 0 oak", f"4 1 {sign}1 oak"):
                    self.assertRaises(NoLine, read, 3, [line])
            if not "a" <= sign <= "z":
                for line in (f"4 1 0 {sign}", f"4 1 0 o{sign}k", f"4 1 0 oak{sign}"):
                    self.assertRaises(NoLine, read, 3, [line])

    def test_too_many_or_too_few(self):
        self.refused(3, "", "4", "4 1", "4 1 0", "4 1 oak", "oak", "4 1 0 oak ash", "4 1 0 0 oak", "1 4 1 0 oak", "4 1 0 oak 0")

    def test_in_another_order(self):
        self.refused(3, "oak 4 1 0", "4 oak 1 0", "4 1 oak 0")

    def test_a_scribe_that_there_is_not(self):
        self.refused(3, "4 3 0 oak", "4 4 0 oak", "4 10 0 oak", "4 " + "9" * 100 + " 0 oak", "4 1" + "0" * 5000 + " 0 oak")
        for count in (1, 2, 13, 100):
            self.assertEqual(read(count, [f"0 {count - 1} 0 a"]), [(0, count - 1, 0, "a")])
            self.assertRaises(NoLine, read, count, [f"0 {count} 0 a"])
            self.assertRaises(NoLine, read, count, [f"0 {count - 1} 0 a", f"0 {count} 0 a"])

    def test_any_line(self):
        form = re.compile(r"(0|[1-9][0-9]*) [0-2] (0|[1-9][0-9]*) [a-z]+", re.ASCII)
        chance = random.Random(51)
        taken = 0
        for _ in range(20000):
            parts = [chance.choice(("0", "1", "2", "10", "3", "01", "-1", "", "a")) for _ in range(3)]
            parts += [chance.choice(("a", "zz", "oak", "a1", "B", ""))][: chance.randint(0, 9)]
            line = chance.choice((" ", " ", " ", "  ", "\t", "")).join(parts) + chance.choice(("", "", "", " ", "\n"))
            if form.fullmatch(line):
                taken += 1
                self.assertEqual(shown(read(3, [line])), [line])
            else:
                self.assertRaises(NoLine, read, 3, [line])
        self.assertGreater(taken, 200)


if __name__ == "__main__":
    unittest.main()
