"""Lines: points [2], [3], [17] and [18], and the interface's section on postbooks/lines.py."""

import itertools
import re
import unittest

from postbooks.errors import NoLetter
from postbooks.lines import read, shown
from postbooks.story import letters_of

CUT = ("cut",)
HUNDRED = "1" + "0" * 99
LONGER = "9" * 130
FAR_LONGER = "7" * 5000

GOOD = [
    ("0 3.0.1 pay 2 15", (0, (3, 0, 1), ("pay", 2, 15))),
    ("1 0.4 cut", (1, (0, 4), CUT)),
    ("0 1.0 cut", (0, (1, 0), CUT)),
    ("0 1.0 pay 1 0", (0, (1, 0), ("pay", 1, 0))),
    ("1 0.1 pay 0 10", (1, (0, 1), ("pay", 0, 10))),
    ("2 10.20.30 pay 1 100", (2, (10, 20, 30), ("pay", 1, 100))),
    ("3 1.2.3.4 pay 0 7", (3, (1, 2, 3, 4), ("pay", 0, 7))),
    ("11 0.0.0.0.0.0.0.0.0.0.0.1 cut", (11, (0,) * 11 + (1,), CUT)),
    ("0 1.0.0.0.0.0.0.0.0.0.0.0 pay 11 1234567890", (0, (1,) + (0,) * 11, ("pay", 11, 1234567890))),
    ("14 0.0.0.0.0.0.0.0.0.0.0.0.0.0.9 pay 13 1", (14, (0,) * 14 + (9,), ("pay", 13, 1))),
]

BAD = {
    "nothing, and blanks alone": ["", " ", "  ", "\n", "\t", ".", "\u00a0"],
    "blanks ahead, behind or doubled": [
        " 0 1.0 cut", "0 1.0 cut ", "0  1.0 cut", "0 1.0  cut", "  0 1.0 cut", "0 1.0 cut  ",
        "0 1.0 pay  1 5", "0 1.0 pay 1  5", "0 1.0 pay 1 5 ", "0 1. 0 cut", "0 1 .0 cut", "0 1.0 c ut",
    ],
    "other blanks": [
        "0\t1.0 cut", "0 1.0\tcut", "0 1.0\ncut", "0\n1.0 cut", "0\u00a01.0 cut", "0 1.0\u2003cut",
        "0 1.0 pay\t1 5", "0 1.0 pay 1\t5", "0 1.0 pay 1\r5", "0\x0b1.0\x0bcut", "0\u30001.0 cut",
    ],
    "a line's end": [
        "0 1.0 cut\n", "\n0 1.0 cut", "0 1.0 cut\r\n", "0 1.0 cut\r", "0 1.0 pay 1 5\n", "0 1.0 pay 1 5\r\n",
        "0 1.0 cut\u2028", "0 1.0 pay 1 5\u0085", "0 1.0 cut\n0 2.0 cut", "0 1.0 cut\x00",
    ],
    "too few parts": ["0", "0 1.0", "cut", "1.0 cut", "0 cut", "0 1.0 pay", "0 1.0 pay 1", "pay 1 5", "1.0 pay 1 5"],
    "too many parts": [
        "0 1.0 cut 1", "0 1.0 cut cut", "0 1.0 cut 1 5", "0 1.0 pay 1 5 0", "0 1.0 pay 1 5 cut", "0 0 1.0 cut",
        "0 1.0 1.0 cut",
    ],
    "dots at either end or doubled": [
        "0 .1.0 cut", "0 1.0. cut", "0 1..0 cut", "0 . cut", "0 .. cut", "0 1. cut", "0 .1 cut", "0. 1.0 cut",
        ".0 1.0 cut", "0 1.0 .cut", "0 1.0 cut.", "0 1.0 pay 1. 5", "0 1.0 pay 1 5.0", "0 1,0 cut", "0 1;0 cut",
    ],
    "noughts ahead": [
        "00 1.0 cut", "01 0.1 cut", "0 01.0 cut", "0 1.00 cut", "0 1.0 pay 01 5", "0 1.0 pay 1 05", "0 1.0 pay 1 00",
        "1 0.1 pay 00 5", "0 001.0 cut",
    ],
    "signs": [
        "+0 1.0 cut", "-0 1.0 cut", "-1 0.1 cut", "0 +1.0 cut", "0 1.-0 cut", "0 1.-1 cut", "0 1.0 pay +1 5",
        "0 1.0 pay -1 5", "0 1.0 pay 1 +5", "0 1.0 pay 1 -5", "0 1.0 pay 1 -0", "0 1.0 pay 1 - 5",
    ],
    "other signs in a number's place": [
        "a 1.0 cut", "0 a.0 cut", "0 1.o cut", "0 1.0 pay l 5", "0 1.0 pay 1 five", "0 1.0 pay 1 1_000",
        "0 1_0.0 cut", "0 1.0 pay 1 5e3", "0 1.0 pay 1 0x5", "0 1.0 pay 1 1,000", "0 1.0 pay 1 1/2", "0 0x1.0 cut",
        "0 1.0 pay 1 5L", "0 (1.0) cut", "0 1.0 pay 1 :", "0 1.0 pay 1 /",
    ],
    "figures that are not 0 to 9": [
        "\u0660 1.0 cut", "0 \u0661.0 cut", "0 1.0 pay \u0661 5", "0 1.0 pay 1 \u0665", "0 1.0 pay 1 5\u0665",
        "0 1.0 pay 1 \uff15", "0 1.0 pay 1 \u00b2", "0 \u00b9.0 cut", "0 1.0 pay 1 \u2464", "0 1.0 pay 1 \u4e94",
        "0 1.0 pay 1 \u0be7", "0 1.0 pay 1 \U0001d7d3", "0 1.0 pay 1 \u00bd",
    ],
    "other words": [
        "0 1.0 Cut", "0 1.0 CUT", "0 1.0 cuts", "0 1.0 cu", "0 1.0 ", "0 1.0 5", "0 1.0 Pay 1 5", "0 1.0 PAY 1 5",
        "0 1.0 pays 1 5", "0 1.0 pa 1 5", "0 1.0 give 1 5", "0 1.0  1 5", "0 1.0 cut 1 5", "0 1.0 None",
        "0 1.0 pay1 5", "0 1.0 pay15", "0 1.0 ('cut',)", "hello", "0 1.0 p\u0430y 1 5",
    ],
    "one number alone in the stamp": ["0 1 cut", "0 5 cut", "0 1 pay 1 5", "0 1 pay 0 5", "1 0 cut", "0 10 cut"],
    "a sender that is no office": [
        "2 1.1 cut", "3 1.1.1 cut", "12 1.1.1 cut", "2 1.1 pay 0 5", "9 1.1 cut", HUNDRED + " 1.1 cut",
    ],
    "a stamp that counts no letter of the sender": [
        "0 0.0 cut", "0 0.5 cut", "1 5.0 cut", "2 1.1.0.1 cut", "0 0.1 pay 1 5", "1 1.0 pay 0 5",
    ],
    "a payment to the sender": ["0 1.0 pay 0 5", "1 0.1 pay 1 5", "2 0.0.1 pay 2 0", "0 1.0 pay 0 0"],
    "a payment to no office": [
        "0 1.0 pay 2 5", "0 1.0.0 pay 3 5", "1 0.1 pay 12 5", "0 1.0 pay 2 0", "0 1.0 pay " + HUNDRED + " 1",
    ],
}


class Shown(unittest.TestCase):
    def test_payments_and_cuts(self):
        for line, letter in GOOD:
            self.assertEqual(shown(letter), line)

    def test_long_numbers(self):
        for text in (HUNDRED, LONGER):
            number = int(text)
            self.assertEqual(shown((1, (number, number), CUT)), f"1 {text}.{text} cut")
            self.assertEqual(shown((0, (1, 0), ("pay", 1, number))), f"0 1.0 pay 1 {text}")

    def test_kind(self):
        self.assertIs(type(shown((0, (1, 0), CUT))), str)


class Read(unittest.TestCase):
    def test_payments_and_cuts(self):
        for line, letter in GOOD:
            self.assertEqual(read(line), letter)

    def test_long_numbers(self):
        for text in (HUNDRED, LONGER):
            number = int(text)
            self.assertEqual(read(f"1 {text}.{text} cut"), (1, (number, number), CUT))
            self.assertEqual(read(f"0 1.0 pay 1 {text}"), (0, (1, 0), ("pay", 1, number)))

    def test_numbers_beyond_those_that_python_reads_itself(self):
        line = f"0 1.0 pay 1 {FAR_LONGER}"
        self.assertEqual(read(line), (0, (1, 0), ("pay", 1, (10 ** 5000 - 1) // 9 * 7)))
        self.assertTrue(shown(read(line)) == line)
        for wrong in (f"{FAR_LONGER} 1.0 cut", f"0 1.0 pay {FAR_LONGER} 1", f"0 1.0 pay 1 0{FAR_LONGER}"):
            self.assertRaises(NoLetter, read, wrong)

    def test_kinds(self):
        letter = read("0 3.0.1 pay 2 15")
        self.assertEqual([type(part) for part in (letter, letter[1], letter[2])], [tuple] * 3)
        numbers = (letter[0],) + letter[1] + letter[2][1:]
        self.assertEqual([type(number) for number in numbers], [int] * 6)
        self.assertEqual(read("1 0.4 cut")[2], ("cut",))

    def test_letters_of_a_story(self):
        deeds = [("pay", 0, 2, 5), ("cut", 1), ("bring", 2), ("pay", 2, 0, 15), ("cut", 2), ("bring", 0), ("cut", 0)]
        lines = ["0 1.0.0 pay 2 5", "1 0.1.0 cut", "2 1.1.1 pay 0 15", "2 1.1.2 cut", "0 2.1.2 cut"]
        letters = letters_of(3, 10, deeds)
        self.assertEqual([shown(letter) for letter in letters], lines)
        self.assertEqual([read(line) for line in lines], letters)


class NoLine(unittest.TestCase):
    def test_every_kind_of_text_that_is_no_line(self):
        for why, lines in BAD.items():
            for line in lines:
                with self.subTest(why=why, line=line):
                    with self.assertRaises(NoLetter) as caught:
                        read(line)
                    self.assertIs(type(caught.exception), NoLetter)


# What a line is, told once more in another way than the program tells it.
NUMBER = "(?:0|[1-9][0-9]*)"
LINE = re.compile(rf"({NUMBER}) ({NUMBER}(?:\.{NUMBER})+) (?:(cut)|pay ({NUMBER}) ({NUMBER}))")


def is_line(text):
    match = LINE.fullmatch(text)
    if match is None:
        return False
    sender, stamp = int(match[1]), [int(part) for part in match[2].split(".")]
    if sender >= len(stamp) or stamp[sender] == 0:
        return False
    return match[3] == "cut" or (int(match[4]) != sender and int(match[4]) < len(stamp))


class EveryNeighbour(unittest.TestCase):
    """Each text that is one sign away from a line: one sign more, one less, or another one."""

    SIGNS = " .0129-+_\n\tpaycutCP\u0663\u00b2\u00a0"

    def neighbours(self, line):
        for place in range(len(line) + 1):
            yield line[:place] + line[place + 1:]
            for sign in self.SIGNS:
                yield line[:place] + sign + line[place:]
                yield line[:place] + sign + line[place + 1:]

    def hold(self, text):
        if is_line(text):
            self.assertEqual(shown(read(text)), text)
        else:
            with self.assertRaises(NoLetter, msg=repr(text)):
                read(text)

    def test_neighbours_of_lines(self):
        for line, letter in GOOD:
            self.assertTrue(is_line(line))
            for text in self.neighbours(line):
                self.hold(text)

    def test_all_short_rows_of_parts(self):
        parts = ["0", "1", "2", "1.0", "0.1", "1.1.1", "1", "cut", "pay", ""]
        for many in range(6):
            for row in itertools.product(parts, repeat=many):
                self.hold(" ".join(row))

    def test_every_sign_in_a_numbers_place(self):
        for sign in map(chr, range(0x3000)):
            for text in (f"0 1.0 pay 1 {sign}", f"0 1.0 pay 1 1{sign}", f"0 1.{sign} cut", f"0 1{sign}.0 cut"):
                self.hold(text)

    def test_all_small_letters(self):
        for sender, to, many in itertools.product(range(3), range(3), (0, 1, 10)):
            for stamp in itertools.product((0, 1, 2, 10), repeat=3):
                if stamp[sender] == 0:
                    continue
                for what in [CUT] + [("pay", to, many)] * (to != sender):
                    letter = (sender, stamp, what)
                    self.assertEqual(read(shown(letter)), letter)


if __name__ == "__main__":
    unittest.main()
