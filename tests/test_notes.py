import re
import unittest
from itertools import product

import by_fractions

from zerofence.errors import NoLine
from zerofence.notes import read, shown

MUCH = 10 ** 119

LINES = {
    "0": [], "1": [1], "-1": [-1], "10": [10], "-30": [-30], "x": [0, 1], "-x": [0, -1], "2x": [0, 2],
    "-12x3-x+1": [1, -1, 0, -12], "x2-2": [-2, 0, 1], "x2+x+1": [1, 1, 1], "-x2-x-1": [-1, -1, -1],
    "x2+11x": [0, 11, 1], "-10x10+100": [100] + [0] * 9 + [-10], "x10": [0] * 10 + [1], "x11-1": [-1] + [0] * 10 + [1],
}

NO_LINES = [
    "+x", "1x", "x1", "0x", "x+x2", "x-x", "2 x", "-0", "",
    # A number or a power that begins with nought, or is nought.
    "02", "-02", "00", "+0", "02x", "x02", "x2+03", "x3-0x2", "x0", "2x0", "x00", "x2+0", "x2-0", "0x2", "x010",
    # The figure of one, written where it is left out, and the power of one.
    "-1x", "1x2", "-1x2", "x2+1x", "x2-1x", "2x1", "x2+x1", "x01",
    # A power that is told twice or rises.
    "x+x", "2x2+3x2", "1+2", "1-1", "5+5", "1+x", "x2+x3", "x+1+x", "x2+1+2", "x2-x2", "x3+x+x2", "2-x",
    # Signs at the end, at the beginning, two in a row.
    "x+", "x-", "5+", "5-", "x2-2+", "x2-2-", "+", "-", "+1", "+-1", "+2x", "--x", "++x", "-+x", "+-x", "x++1", "x--1",
    "x+-1", "x-+1", "--", "++", "-+", "x2--x", "x2+-x+1",
    # x told twice, or split from what belongs to it.
    "xx", "2xx", "xx2", "x2x", "x2x2", "x 2", " x", "x ", "- x", "x + 1", "x2 -2", " 0", "0 ", "1 2", " ",
    # Other ways of writing that are not these.
    "X", "2X", "x^2", "x**2", "2*x", "x*x", "x.5", "1.0", "1e3", "0x10", "0b1", "1_0", "x1_0", "x1_000", "(x)", "[1]",
    "x=1", "x/2", "1/2", "y", "2y", "x2,1", "x;", "~", "#", "one", "-one", "x-one", "xone", "nan", "None", "x\\", "'x'",
]


def written(curve):
    """The line by another way: all terms with their signs first, and then what is left out taken out."""
    terms = "".join(f"{number:+d}x{power}" for power, number in reversed(list(enumerate(curve))) if number)
    terms = re.sub(r"x0$", "", terms)
    terms = re.sub(r"x1(?![0-9])", "x", terms)
    terms = re.sub(r"(?<=[+-])1x", "x", terms)
    return terms.removeprefix("+") or "0"


def is_a_line(text):
    """Whether a text is to be read, by its form and the fall of its powers."""
    term = r"(?:(?!1x)[1-9][0-9]*)?x(?:(?!1(?![0-9]))[1-9][0-9]*)?|[1-9][0-9]*"
    if not re.fullmatch(rf"0|-?(?:{term})(?:[+-](?:{term}))*", text, re.ASCII):
        return False
    powers = []
    for found in re.findall(r"[0-9]*x?[0-9]*", text):
        if found:
            powers.append(int(found.partition("x")[2] or "1") if "x" in found else 0)
    return powers[0] <= 1000 and all(one > other for one, other in zip(powers, powers[1:]))


class TheLine(unittest.TestCase):
    def test_of_the_documents_curve(self):
        self.assertEqual(shown([1, -1, 0, -12]), "-12x3-x+1")

    def test_of_nought(self):
        self.assertEqual(shown([]), "0")

    def test_of_some(self):
        for line, curve in LINES.items():
            with self.subTest(line=line):
                self.assertEqual(shown(curve), line)

    def test_of_every_small_curve(self):
        for curve in by_fractions.small_curves(5, 2):
            with self.subTest(curve=curve):
                self.assertEqual(shown(curve), written(curve))

    def test_one_at_each_power(self):
        self.assertEqual(shown([1]), "1")
        self.assertEqual(shown([-1]), "-1")
        for power in range(1, 40):
            figures = "" if power == 1 else str(power)
            with self.subTest(power=power):
                self.assertEqual(shown([0] * power + [1]), f"x{figures}")
                self.assertEqual(shown([0] * power + [-1]), f"-x{figures}")
                self.assertEqual(shown([1] + [0] * (power - 1) + [-1]), f"-x{figures}+1")
                self.assertEqual(shown([-1] + [0] * (power - 1) + [1]), f"x{figures}-1")

    def test_forty_numbers(self):
        powers = [f"x{power}" for power in range(39, 1, -1)]
        self.assertEqual(shown([1] * 40), "+".join(powers + ["x", "1"]))
        self.assertEqual(shown([-1] * 40), "-" + "-".join(powers + ["x", "1"]))
        self.assertEqual(shown([10] * 40), "+".join(["10" + power for power in powers + ["x", ""]]))

    def test_forty_numbers_of_many_figures(self):
        for curve in by_fractions.large_curves(60, 4, 40, 120):
            self.assertEqual(shown(curve), written(curve))

    def test_numbers_of_many_figures(self):
        much = "1" + "0" * 119
        self.assertEqual(shown([MUCH]), much)
        self.assertEqual(shown([-MUCH, MUCH, 0, -MUCH]), f"-{much}x3+{much}x-{much}")


class TheLineRead(unittest.TestCase):
    def test_some(self):
        for line, curve in LINES.items():
            with self.subTest(line=line):
                self.assertEqual(read(line), curve)

    def test_what_is_written_is_read_to_the_same_curve(self):
        for curve in by_fractions.small_curves(5, 2):
            with self.subTest(curve=curve):
                self.assertEqual(read(written(curve)), curve)

    def test_forty_numbers_of_many_figures(self):
        for curve in by_fractions.large_curves(61, 4, 40, 120):
            self.assertEqual(read(shown(curve)), curve)
        self.assertEqual(read(shown([0] * 39 + [-MUCH])), [0] * 39 + [-MUCH])

    def test_the_highest_power(self):
        self.assertEqual(read("x1000"), [0] * 1000 + [1])
        self.assertEqual(read("-3x1000+x999-4"), [-4] + [0] * 998 + [1, -3])
        self.assertEqual(read("x999"), [0] * 999 + [1])

    def test_a_power_above_it(self):
        lines = ["x1001", "-2x1001+1", "x1002-x1001", "x1001+x1000", "x10000", "x2000", f"x{MUCH}", "x" + "9" * 5000]
        for line in lines:
            with self.subTest(line=line[:20]):
                with self.assertRaises(NoLine):
                    read(line)
        with self.assertRaises(NoLine):
            read(shown([0] * 1001 + [1]))

    def test_two_answers_are_two_lists(self):
        first = read("x+1")
        first.append(5)
        self.assertEqual(read("x+1"), [1, 1])

    def test_other_texts_are_refused(self):
        for text in NO_LINES:
            with self.subTest(text=text):
                with self.assertRaises(NoLine):
                    read(text)

    def test_every_sign_by_itself(self):
        for number in range(32, 127):
            self.as_asked(chr(number))

    def test_every_sign_put_into_a_line(self):
        for line in ["x", "7", "-12x3-x+1", "x2-2"]:
            for at in range(len(line) + 1):
                for number in range(32, 127):
                    self.as_asked(line[:at] + chr(number) + line[at:])
                    self.as_asked(line[:at] + chr(number) + line[at + 1:])

    def test_every_short_text(self):
        for length in range(6):
            for signs in product("x+-012 ", repeat=length):
                self.as_asked("".join(signs))

    def test_every_text_of_some_pieces(self):
        pieces = ["+", "-", "x", "x2", "x3", "2x", "1", "10"]
        for length in range(5):
            for chosen in product(pieces, repeat=length):
                self.as_asked("".join(chosen))

    def as_asked(self, text):
        if is_a_line(text):
            self.assertEqual(written(read(text)), text)
        else:
            with self.assertRaises(NoLine, msg=text):
                read(text)


if __name__ == "__main__":
    unittest.main()
