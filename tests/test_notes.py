import re
import unittest
from itertools import product
from math import gcd

from wareplan.errors import NoFraction, PlanError
from wareplan.notes import read, shown

BIG = 10 ** 31 + 33
BIGGER = 98765432109876543210987654321098
SIGNS = [chr(code) for code in range(ord(" "), ord("~") + 1)]
FORM = re.compile("(0|-?[1-9][0-9]*)(?:/([1-9][0-9]*))?")

WRITTEN = {
    "0": (0, 1),
    "1": (1, 1),
    "-1": (-1, 1),
    "-3": (-3, 1),
    "7/2": (7, 2),
    "-7/2": (-7, 2),
    "1/2": (1, 2),
    "10": (10, 1),
    "-100": (-100, 1),
    "10/3": (10, 3),
    "3/10": (3, 10),
    "-101/100": (-101, 100),
    "10000000000000000000000000000033": (BIG, 1),
    "-98765432109876543210987654321098": (-BIGGER, 1),
    "1/98765432109876543210987654321098": (1, BIGGER),
    "-10000000000000000000000000000033/10000000000000000000000000000034": (-BIG, BIG + 1),
    "12345678901234567890123456789012345678901234567890/7": (
        12345678901234567890123456789012345678901234567890, 7),
}

REFUSED = [
    "", "4/2", "-0", "1/-2", "03", "+1", "1/1",
    "-", "--", "--1", "-+1", "+", "+0", "-/", "-/2", "/", "//", "/2", "1/", "-1/", "1/2/", "/1/2",
    "1/2/3", "1//2", "1/2//3", "//1",
    "00", "01", "-01", "-00", "000", "007/2", "-03/2", "7/02", "7/002", "7/00", "1/01",
    "0/1", "0/2", "0/7", "-0/2", "0/0", "1/0", "-1/0", "7/0", "0/-1",
    "2/2", "-2/2", "2/4", "-6/4", "6/3", "-1/1", "10/5", "100/10", "21/14",
    "1/-1", "-1/-2", "1/--2", "1/+2", "+1/2",
    " ", " 1", "1 ", "- 1", "1 2", " 1/2", "1/2 ", "1 /2", "1/ 2", "1 / 2", "  ",
    "_", "1_0", "_1", "1_", "1/1_0", "1_0/3", "-_1",
    "1.0", "1.", ".5", "0.5", "1e3", "1E3", "0x10", "0b1", "1,000", "1-", "1-2", "2-1/3", "a", "a/b",
    "one", "inf", "nan", "1;2", "1:2", "(1, 2)", "[1]", "1\\2", "1|2", "~1", "!", "\"1\"", "'1'",
]


def fits_the_document(text):
    match = FORM.fullmatch(text)
    if match is None:
        return False
    if match.group(2) is None:
        return True
    bottom = int(match.group(2))
    return bottom > 1 and gcd(int(match.group(1)), bottom) == 1


def meant_by(text):
    top, stroke, bottom = text.partition("/")
    return (int(top), int(bottom) if stroke else 1)


class NotesCase(unittest.TestCase):
    def assert_refused(self, text):
        with self.assertRaises(NoFraction, msg=repr(text)):
            read(text)

    def assert_as_the_document_says(self, text):
        if fits_the_document(text):
            self.assertEqual(read(text), meant_by(text), repr(text))
        else:
            self.assert_refused(text)


class Shown(NotesCase):
    def test_written_out(self):
        for text, fraction in WRITTEN.items():
            self.assertEqual(shown(fraction), text)
            self.assertIs(type(shown(fraction)), str)

    def test_small_ones(self):
        for top in range(-120, 121):
            for bottom in range(1, 13):
                if gcd(top, bottom) == 1:
                    wanted = str(top) if bottom == 1 else str(top) + "/" + str(bottom)
                    self.assertEqual(shown((top, bottom)), wanted)

    def test_what_is_shown_is_read_back(self):
        numbers = [1, 2, 9, 10, 11, 99, 100, 101, BIG, BIG + 1, BIGGER, 10 ** 40, 7 ** 60, 0]
        for top in numbers:
            for bottom in numbers:
                if bottom > 0 and gcd(top, bottom) == 1:
                    self.assertEqual(read(shown((top, bottom))), (top, bottom))
                    self.assertEqual(read(shown((-top, bottom))), (-top, bottom))


class Read(NotesCase):
    def test_written_out(self):
        for text, fraction in WRITTEN.items():
            value = read(text)
            self.assertEqual(value, fraction)
            self.assertIs(type(value), tuple)
            self.assertEqual([type(part) for part in value], [int, int])

    def test_refused_written_out(self):
        for text in REFUSED:
            self.assert_refused(text)
            with self.assertRaises(PlanError):
                read(text)

    def test_large_ones_refused(self):
        for text in (f"0{BIG}", f"-0{BIG}", f"{BIG}/0{BIGGER}", f"{BIG}/{BIG}", f"{2 * BIG}/{2 * BIGGER}",
                     f"{BIG}/-{BIGGER}", f"{BIG}/1", f"{BIG}/0", f"0/{BIG}", f"+{BIG}", f"{BIG} ", f"{BIG}_000"):
            self.assert_refused(text)

    def test_every_short_text_of_some_signs(self):
        for length in range(6):
            for signs in product("-/0124 ", repeat=length):
                self.assert_as_the_document_says("".join(signs))

    def test_every_text_of_two_signs(self):
        for signs in product(SIGNS, repeat=2):
            self.assert_as_the_document_says("".join(signs))

    def test_every_single_sign(self):
        for sign in SIGNS:
            self.assert_as_the_document_says(sign)

    def test_any_sign_put_in_anywhere(self):
        for text in WRITTEN:
            for place in range(len(text) + 1):
                for sign in SIGNS:
                    self.assert_as_the_document_says(text[:place] + sign + text[place:])
                    self.assert_as_the_document_says(text[:place] + sign + text[place + 1:])

    def test_texts_with_small_numbers(self):
        for top in range(-40, 41):
            for bottom in range(-3, 41):
                self.assert_as_the_document_says(f"{top}/{bottom}")


class FarBeyond(NotesCase):
    def test_more_figures_than_str_and_int_take(self):
        number = 10 ** 5000
        text = "1" + "0" * 5000
        self.assertTrue(shown((-number, 1)) == "-" + text)
        self.assertTrue(shown((1, number)) == "1/" + text)
        self.assertTrue(read("-" + text) == (-number, 1))
        self.assertTrue(read("7/" + text) == (7, number))
        with self.assertRaises(NoFraction):
            read("0" + text)


if __name__ == "__main__":
    unittest.main()
