import re
import unittest
from itertools import product

from digitway.decimals import Decimal
from digitway.reading import read, read_text

from tests.things import NO_TEXTS, refused_text

WHOLE = re.compile(r"nan|[-+]?(inf|([0-9]+(\.[0-9]*)?|\.[0-9]+)(e[-+]?[0-9]{1,4})?)")

# Whatever begins a text is made one by one of these.
REST = ("", "0", "n", "an", "f", "nf")

SIGNS = [sign for sign in map(chr, range(32, 127)) if sign != "%"]

# By the text: digits, power, sign.
DECIMALS = {
    "0": (0, 0, 0),
    "-0": (0, 0, 1),
    "+0": (0, 0, 0),
    "7": (7, 0, 0),
    "007": (7, 0, 0),
    "00": (0, 0, 0),
    "120": (120, 0, 0),
    "1.": (1, 0, 0),
    "-1.": (1, 0, 1),
    ".5": (5, -1, 0),
    "+.5": (5, -1, 0),
    "-.5": (5, -1, 1),
    ".050": (50, -3, 0),
    "1.50": (150, -2, 0),
    "0.000": (0, -3, 0),
    "-0.0": (0, -1, 1),
    "1e5": (1, 5, 0),
    "1e+5": (1, 5, 0),
    "1e-5": (1, -5, 0),
    "1e0": (1, 0, 0),
    "1e-0": (1, 0, 0),
    "1e0005": (1, 5, 0),
    "1e9999": (1, 9999, 0),
    "-1e-9999": (1, -9999, 1),
    "1.e5": (1, 5, 0),
    ".5e5": (5, 4, 0),
    "12.5e-7": (125, -8, 0),
    "-12.50e+12": (1250, 10, 1),
    "0e9999": (0, 9999, 0),
    "-0.00e-9999": (0, -10001, 1),
    "9007199254740993": (9007199254740993, 0, 0),
}

WORDS = {"nan": "nan", "inf": "inf", "+inf": "inf", "-inf": "-inf"}

PLACES = {
    "": 0,
    " ": 0,
    "+": 1,
    "-": 1,
    ".": 1,
    "+.": 2,
    "e": 0,
    "e5": 0,
    ".e5": 1,
    "+e5": 1,
    "1e": 2,
    "1e+": 3,
    "1e-": 3,
    "1e+-": 3,
    "1e.5": 2,
    "1e5.": 3,
    "1e5e5": 3,
    "1e12345": 6,
    "1e-12345": 7,
    "1e+00000": 7,
    "1..5": 2,
    "1.5.": 3,
    "..5": 1,
    "1+": 1,
    "1-5": 1,
    "+-5": 1,
    "--5": 1,
    "++5": 1,
    " 5": 0,
    "5 ": 1,
    "1 5": 1,
    "1_5": 1,
    "1,5": 1,
    "0x5": 1,
    "1E5": 1,
    "1p5": 1,
    "n": 1,
    "na": 2,
    "nan ": 3,
    "nan0": 3,
    "nann": 3,
    "nb": 1,
    "nai": 2,
    "+n": 1,
    "-nan": 1,
    "+nan": 1,
    "NaN": 0,
    "i": 1,
    "in": 2,
    "infi": 3,
    "infinity": 3,
    "inf0": 3,
    "inf.": 3,
    "infe5": 3,
    "-i": 2,
    "-in": 3,
    "-infi": 4,
    "+infi": 4,
    "Inf": 0,
    "INF": 0,
    "ina": 2,
    "1inf": 1,
    "1nan": 1,
    "a": 0,
    "f": 0,
    "x": 0,
    "~": 0,
}


def begins_one(text):
    return any(WHOLE.fullmatch(text + rest) for rest in REST)


def wrong_place(text):
    """By [12]: the place where a text of at most 1,900 signs is refused, or None."""
    for place in range(len(text)):
        if not begins_one(text[:place + 1]):
            return place
    return None if WHOLE.fullmatch(text) else len(text)


class Told(unittest.TestCase):
    def test_decimals(self):
        for text, (digits, power, sign) in DECIMALS.items():
            told = read_text(text)
            self.assertTrue(type(told) is Decimal, text)
            self.assertEqual((told.digits(), told.tens(), told.sign()), (digits, power, sign), text)

    def test_words(self):
        for text, wanted in WORDS.items():
            self.assertEqual(read_text(text), wanted)
            self.assertTrue(type(read_text(text)) is str)

    def test_by_name(self):
        self.assertTrue(read_text(text="1.5") == Decimal(15, -1))

    def test_each_form(self):
        marks, wholes, parts = ("", "-", "+"), ("", "0", "4", "10", "072"), (None, "", "0", "5", "20", "013")
        powers = (None, "0", "3", "-3", "+3", "0021", "-0021", "9999", "-9999", "+00")
        seen = 0
        for mark, whole, part, power in product(marks, wholes, parts, powers):
            if not whole + (part or ""):
                continue
            text = mark + whole + ("" if part is None else "." + part) + ("" if power is None else "e" + power)
            digits, tens = int(whole + (part or "")), int(power or "0") - len(part or "")
            self.assertTrue(read_text(text) == Decimal(digits, tens, sign=1 if mark == "-" else 0), text)
            seen += 1
        self.assertEqual(seen, 3 * (5 * 6 - 2) * 10)


class Refused(unittest.TestCase):
    def test_by_hand(self):
        for text, place in PLACES.items():
            with self.subTest(text):
                refused_text(self, place, read_text, text)
                refused_text(self, place, read, text)

    def test_each_wrong_sign_at_each_place(self):
        texts = ["nan", "inf", "-inf", "+inf", "12", "-1.25", "+.5", "3.", "1e5", "-1.5e-12", "2e+3456", ".0e0"]
        for text in texts:
            for place in range(len(text) + 1):
                for sign in SIGNS:
                    for changed in (text[:place] + sign + text[place + 1:], text[:place] + sign + text[place:]):
                        self.check(changed)

    def test_all_short_ones(self):
        for many in range(5):
            for signs in product("+-.07einfax ", repeat=many):
                self.check("".join(signs))

    def test_each_cut(self):
        for text in list(DECIMALS) + list(WORDS):
            for many in range(len(text) + 1):
                self.check(text[:many])

    def check(self, text):
        place = wrong_place(text)
        if place is None:
            read_text(text)
        else:
            refused_text(self, place, read_text, text)

    def test_no_text(self):
        for name, thing in NO_TEXTS.items():
            with self.subTest(name):
                refused_text(self, 0, read_text, thing)
                refused_text(self, 0, read_text, text=thing)
                refused_text(self, 0, read, thing)


class Long(unittest.TestCase):
    def test_exactly_1900_signs(self):
        for text, digits, power, sign in (
            ("1" * 1900, int("1" * 1900), 0, 0),
            ("9" * 1900, 10**1900 - 1, 0, 0),
            ("0" * 1900, 0, 0, 0),
            ("-" + "9" * 1899, 10**1899 - 1, 0, 1),
            ("." + "9" * 1899, 10**1899 - 1, -1899, 0),
            ("+." + "0" * 1897 + "1", 1, -1898, 0),
            ("-." + "7" * 1892 + "e-9999", int("7" * 1892), -9999 - 1892, 1),
            ("7" * 1895 + "e9999", int("7" * 1895), 9999, 0),
            ("0" * 1893 + ".5e+123", 5, 122, 0),
            ("5" * 1899 + ".", int("5" * 1899), 0, 0),
        ):
            self.assertEqual(len(text), 1900)
            self.assertTrue(read_text(text) == Decimal(digits, power, sign=sign))
            for more in ("0", " ", "x", "e", "."):
                refused_text(self, 1900, read_text, text + more)
                refused_text(self, 1900, read, text + more)

    def test_1899_signs(self):
        self.assertTrue(read_text("3" * 1899) == Decimal(int("3" * 1899)))

    def test_wrong_ones_of_1900_signs(self):
        for text, place in (
            ("x" + "1" * 1899, 0),
            ("1" * 1899 + "x", 1899),
            ("1" * 1000 + " " + "1" * 899, 1000),
            ("1" * 1899 + "e", 1900),
            ("1" * 1898 + "e-", 1900),
            ("nan" + " " * 1897, 3),
            ("inf" + "1" * 1897, 3),
            ("1e" + "0" * 1898, 6),
            (" " * 1900, 0),
        ):
            self.assertEqual(len(text), 1900)
            refused_text(self, place, read_text, text)

    def test_longer_ones_whatever_they_are(self):
        for text in (
            "1" * 1901, "0" * 1901, "x" * 1901, " " * 1901, "x" + "1" * 1900, "1" * 1900 + "x", "nan" + "n" * 1898,
            "inf" * 700, "1" * 20000, "~" * 20000, "-" + "1" * 1900, "1." + "1" * 1899, "1e" + "1" * 1899,
            "." * 1901, "1" * 1900 + "e",
        ):
            refused_text(self, 1900, read_text, text)
            refused_text(self, 1900, read, text)


if __name__ == "__main__":
    unittest.main()
