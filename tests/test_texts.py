"""Promises 50 and 51: texts of polynomials and ratios, written and read."""

import math
import random
import re
import unittest
from fractions import Fraction

from samples import GREAT, drawn

from surefoot.errors import BadText, FootError
from surefoot.texts import ratio_text, read, read_ratio, written

MOST = 10 ** 12 - 1
WRITTEN = [
    ([], "0"), ([1], "1"), ([-1], "-1"), ([7], "7"), ([-12], "-12"),
    ([0, 1], "x"), ([0, -1], "-x"), ([0, 2], "2x"), ([0, -2], "-2x"), ([0, 10], "10x"), ([0, -11], "-11x"),
    ([1, 1], "x + 1"), ([-1, 1], "x - 1"), ([1, -1], "-x + 1"), ([-1, -1], "-x - 1"), ([10, 21], "21x + 10"),
    ([0, 0, 1], "x^2"), ([0, 0, -1], "-x^2"), ([0, 0, 3], "3x^2"), ([-2, 0, 1], "x^2 - 2"), ([0, -2, 1], "x^2 - 2x"),
    ([1, 1, 1], "x^2 + x + 1"), ([-1, -1, -1], "-x^2 - x - 1"), ([5, -4, 3, -2], "-2x^3 + 3x^2 - 4x + 5"),
    ([0, 1, 0, -1], "-x^3 + x"), ([0] * 9 + [1], "x^9"), ([0] * 10 + [1], "x^10"), ([0] * 11 + [-7], "-7x^11"),
    ([-1] + [0] * 11 + [1], "x^12 - 1"), ([MOST, MOST], "999999999999x + 999999999999"),
    ([-MOST, 0, -MOST], "-999999999999x^2 - 999999999999"), ([100000000000], "100000000000"),
    ([1] * 13, "x^12 + x^11 + x^10 + x^9 + x^8 + x^7 + x^6 + x^5 + x^4 + x^3 + x^2 + x + 1"),
]
BAD = [
    # Nothing, blanks, signs alone.
    ("", 0), (" ", 0), ("  ", 0), ("-", 1), ("+", 0), ("--", 1), ("- ", 1), ("^", 0), ("^2", 0), ("/", 0), ("=", 0),
    # Blanks ahead, behind, within.
    (" x", 0), (" 0", 0), ("x ", 1), ("2 ", 1), ("2 x", 1), ("x ^2", 1), ("x^ 2", 2), ("- x", 1), ("-x ", 2),
    ("x^2 ", 3), ("x^2 + 1 ", 7), ("x^2  + 1", 3), ("x^2 +  1", 6), ("x^2 + 1  ", 7), ("x^2 - 2x  + 1", 8),
    # Noughts.
    ("-0", 1), ("00", 0), ("0 ", 0), ("0x", 0), ("-0x", 1), ("0x^2", 0), ("0 + 1", 0), ("0 + x", 0), ("x + 0", 4),
    ("x - 0", 4), ("01", 0), ("-01", 1), ("01x", 0), ("x + 01", 4), ("x + 0x", 4), ("x^2 + 0x + 1", 6), ("000", 0),
    ("0-", 0), ("0^2", 0), ("x^2 - 00", 6), ("5 + 0", 4),
    # Ones.
    ("1x", 0), ("-1x", 1), ("1x^2", 0), ("x^2 + 1x", 6), ("x^2 - 1x + 3", 6), ("1x^0", 0), ("1x^13", 0), ("1x^", 0),
    ("-1x^3 + 1", 1), ("x + 1x", 4), ("x + 1x^2", 4),
    # Powers.
    ("x^", 2), ("x^0", 2), ("x^1", 2), ("x^13", 2), ("x^02", 2), ("x^00", 2), ("x^01", 2), ("x^012", 2), ("x^-2", 2),
    ("x^+2", 2), ("x^x", 2), ("x^^2", 2), ("-x^1", 3), ("2x^1", 3), ("10x^13", 4), ("x^99", 2), ("x^100", 2),
    ("x^1234567890123", 2), ("x^2 + x^1", 8), ("x^2 + x^0", 8), ("x^2 + 3x^", 9), ("x^2 + 3x^13", 9), ("x^20", 2),
    ("x^1 + 1", 2), ("x^0 + 1", 2), ("x^13 + x", 2), ("x^1x", 2), ("x^02 + 1", 2), ("x^2 - x^02", 8),
    # Powers that don't fall; that of a power which can't stand by itself is told at its own place.
    ("x + x", 4), ("1 + 1", 4), ("1 + x", 4), ("x + x^2", 4), ("x^2 + x^2", 6), ("x^2 - x^3", 6), ("5 - 3", 4),
    ("x^2 + x - x", 10), ("x^2 + 1 + x", 10), ("x^12 + x^12", 7), ("-x - x", 5), ("x^3 + x + x^2 + 1", 10),
    ("x + x^13", 6), ("x + x^1", 6), ("x + x^0", 6), ("1 + 2x^0", 7), ("1 + x^1", 6), ("x + x^02", 6), ("x + x^", 6),
    ("x + x^2x", 4), ("2 + 3x^2^", 4), ("x^2 + 7x^2 ", 6),
    # The signs between.
    ("x+1", 1), ("x-1", 1), ("x +1", 1), ("x + ", 4), ("x +", 1), ("x -", 1), ("x- 1", 1), ("x + -1", 4), ("x - -1", 4),
    ("x + +1", 4), ("x * 1", 1), ("x / 2", 1), ("x  1", 1), ("x = 1", 1), ("+x", 0), ("+ x", 0), ("--x", 1), ("-+x", 1),
    ("x^2 + x - ", 10), ("x^2 + x -", 7), ("x^2 + x +1", 7), ("x^2 ++ x", 3), ("x^2 + x ~ 1", 7), ("x\n+ 1", 1),
    # Other signs behind a part.
    ("xx", 1), ("x2", 1), ("2x3", 2), ("x^2x", 3), ("x^2^3", 3), ("3^2", 1), ("x*2", 1), ("2*x", 1), ("x.", 1),
    ("y", 0),
    ("X", 0), ("X^2", 0), ("x^2 + y", 6), ("x^2 + 3y", 7), ("1.5", 1), ("1/2", 1), ("(x)", 0), ("x^12 - 1x^11", 7),
    ("x^10x", 4), ("x^2-", 3), ("1e5", 1), ("1_0", 1), ("x^2 + a", 6),
    # Too many figures.
    ("1234567890123", 0), ("-1000000000000", 1), ("1234567890123x", 0), ("x + 1000000000000", 4), ("0000000000001", 0),
    ("1234567890123x^13", 0), ("1" * 5000, 0), ("x - " + "9" * 5000, 4), ("x^" + "2" * 5000, 2),
]
BAD_RATIOS = [
    ("", 0), (" ", 0), ("-", 1), ("+", 0), ("+5", 0), (" 5", 0), ("5 ", 1), ("- 5", 1), ("--5", 1), ("/", 0), ("/2", 0),
    ("-/2", 1), ("x", 0), ("-x", 1), ("a", 0), ("-0", 1), ("-0/2", 1), ("-0x", 1), ("00", 0), ("-00", 1), ("01", 0),
    ("-01", 1), ("01/2", 0), ("00/1", 0), ("0/1", 2), ("0/2", 2), ("0/0", 2), ("0/", 2), ("5/", 2), ("-5/", 3),
    ("5/0", 2), ("5/1", 2), ("-5/1", 3), ("5/00", 2), ("5/02", 2), ("5/-2", 2), ("5/+2", 2), ("5/ 2", 2), ("5 /2", 1),
    ("4/2", 2), ("2/2", 2), ("6/4", 2), ("-6/4", 3), ("2/4", 2), ("10/15", 3), ("4/2x", 2), ("5/0x", 2), ("5/2x", 3),
    ("5/2/3", 3), ("5/2 ", 3), ("5/2-", 3), ("5//2", 2), ("5/x", 2), ("5x", 1), ("5.5", 1), ("5,5", 1), ("5-", 1),
    ("-5-", 2), ("0x", 1), ("0-", 1), ("0 ", 1), ("12/5/", 4), ("12 5", 2), ("1/3\n", 3), ("1\n", 1),
    ("1234567890123", 0), ("-1234567890123", 1), ("1/1234567890123", 2), ("-1/1234567890123", 3),
    ("1000000000000/3", 0),
    ("1000000000000/x", 0), ("0000000000001", 0), ("1/" + "7" * 5000, 2), ("7" * 5000, 0), ("123456789012/", 13),
    ("999999999999/999999999999", 13),
]


def plain_read(text):
    """The polynomial, or the place, by another way than the program's: part for part by patterns."""
    if text == "0":
        return []
    found = {}
    place = 1 if text[:1] == "-" else 0
    turn = -1 if place else 1
    while True:
        part = re.compile(r"([0-9]*)(x(?:(\^)([0-9]*))?)?").match(text, place)
        figures, tail, mark, power = part.groups()
        if part.end() == place or not re.fullmatch(r"[1-9][0-9]{0,11}|", figures) or (figures == "1" and tail):
            return place
        if mark and not re.fullmatch(r"[2-9]|1[0-2]", power):
            return part.start(4)
        degree = int(power) if mark else 1 if tail else 0
        if found and degree >= min(found):
            return place
        found[degree] = turn * int(figures or "1")
        place = part.end()
        if place == len(text):
            return [found.get(k, 0) for k in range(max(found) + 1)]
        if text[place:place + 3] not in (" + ", " - "):
            return place
        turn = -1 if text[place + 1] == "-" else 1
        place += 3


def plain_read_ratio(text):
    whole = re.fullmatch(r"(-?)(0|[1-9][0-9]{0,11})(?:/([1-9][0-9]{0,11}))?", text)
    if whole and whole.group(0) != "-0":
        top, under = int(whole.group(1) + whole.group(2)), int(whole.group(3) or "1")
        if whole.group(3) is None or (under > 1 and math.gcd(top, under) == 1 and (top or not whole.group(1))):
            return top, under
    sign, figures, mark, lower = re.match(r"(-?)([0-9]*)(/?)([0-9]*)", text).groups()
    if not re.fullmatch(r"0|[1-9][0-9]{0,11}", figures) or sign + figures == "-0":
        return len(sign)
    if not mark:
        return len(sign + figures)
    if not re.fullmatch(r"[1-9][0-9]{0,11}", lower) or lower == "1" or math.gcd(int(figures), int(lower)) != 1:
        return len(sign + figures) + 1
    return len(sign + figures + mark + lower)


def changed(source, text, signs):
    """A text by a sign or some away: left out, put in, doubled, exchanged, or cut short."""
    place = source.randint(0, len(text))
    way = source.randint(0, 4)
    sign = source.choice(signs)
    if way == 0:
        return text[:place] + text[place + 1:]
    if way == 1:
        return text[:place] + sign + text[place:]
    if way == 2:
        return text[:place + 1] + text[place:]
    if way == 3:
        return text[:place] + sign + text[place + 1:]
    return text[:place]


class Checking(unittest.TestCase):
    def refused(self, function, text, at):
        with self.assertRaises(FootError, msg=text) as taken:
            function(text)
        self.assertIs(type(taken.exception), BadText, text)
        self.assertEqual(taken.exception.at, at, text)
        self.assertIs(type(taken.exception.at), int)
        self.assertIs(type(str(taken.exception)), str)

    def against(self, function, oracle, texts):
        both = [0, 0]
        for text in texts:
            sought = oracle(text)
            if isinstance(sought, int):
                self.refused(function, text, sought)
            else:
                self.assertEqual(function(text), sought, text)
            both[isinstance(sought, int)] += 1
        self.assertTrue(all(both))


class Polynomials(Checking):
    def test_written(self):
        for poly, text in WRITTEN:
            self.assertEqual(written(poly), text)
            self.assertIs(type(written(poly)), str)

    def test_read(self):
        for poly, text in WRITTEN:
            self.assertEqual(read(text), poly)
            self.assertIs(type(read(text)), list)

    def test_there_and_back(self):
        for seed in range(400):
            source = random.Random(seed)
            size = source.choice((1, 2, 9, 100, MOST))
            poly = drawn(seed, seed % 13, size)
            for place in range(len(poly) - 1):
                poly[place] *= source.choice((0, 1, 1))
            self.assertEqual(read(written(poly)), poly)
            self.assertEqual(written(read(written(poly))), written(poly))

    def test_written_beyond_what_is_read(self):
        self.assertEqual(written([0] * 40 + [GREAT]), str(GREAT) + "x^40")
        self.assertEqual(written([-GREAT] + [0] * 12 + [-1]), "-x^13 - " + str(GREAT))
        self.assertEqual(written([10 ** 12, 10 ** 12]), "1000000000000x + 1000000000000")
        for poly in ([0] * 13 + [1], [0, 10 ** 12], [-10 ** 12]):
            with self.assertRaises(BadText):
                read(written(poly))

    def test_bad_texts(self):
        for text, at in BAD:
            self.refused(read, text, at)

    def test_the_other_way_of_reading(self):
        for text, at in BAD:
            self.assertEqual(plain_read(text), at, text)
        for poly, text in WRITTEN:
            self.assertEqual(plain_read(text), poly)

    def test_cut_short(self):
        for poly, text in WRITTEN:
            self.against(read, plain_read, [text[:end] for end in range(len(text))] + ["", text])

    def test_changed_texts(self):
        source = random.Random(50)
        texts = [text for poly, text in WRITTEN] + [written(drawn(seed, seed % 13, 12)) for seed in range(20)]
        for turn in range(6):
            texts.extend([changed(source, source.choice(texts), "0123456789 +-x^~/") for _ in range(1000)])
        self.against(read, plain_read, texts)

    def test_all_short_texts(self):
        texts = [""]
        for length in range(6):
            self.against(read, plain_read, texts + ["0", ""])
            texts = [text + sign for text in texts for sign in "012x^- +"[:8 if length < 4 else 5]]

    def test_a_list_that_was_read_is_the_asker_s_own(self):
        for text in ("0", "x^2 - 2"):
            first = read(text)
            first.append(7)
            self.assertEqual(read(text), first[:-1])


class Ratios(Checking):
    def test_there_and_back(self):
        for top in list(range(-30, 31)) + [MOST, -MOST, MOST - 1, 10 ** 11]:
            for under in list(range(1, 14)) + [MOST, MOST - 1, 10 ** 11 + 1]:
                given = Fraction(top, under).as_integer_ratio()
                text = ratio_text(given)
                self.assertEqual(text, str(given[0]) + ("" if given[1] == 1 else "/" + str(given[1])))
                self.assertEqual(read_ratio(text), given)
                self.assertIs(type(read_ratio(text)), tuple)

    def test_forms(self):
        for given, text in (
            ((0, 1), "0"), ((1, 1), "1"), ((-1, 1), "-1"), ((3, 2), "3/2"), ((-3, 2), "-3/2"), ((1, 10), "1/10"),
            ((10, 1), "10"), ((-100, 3), "-100/3"), ((MOST, 1), "999999999999"), ((-1, MOST), "-1/999999999999"),
        ):
            self.assertEqual(ratio_text(given), text)
            self.assertEqual(read_ratio(text), given)

    def test_written_beyond_what_is_read(self):
        self.assertEqual(ratio_text((-GREAT, GREAT - 1)), "-" + str(GREAT) + "/" + str(GREAT - 1))
        # More figures than Python writes at once.
        self.assertEqual(ratio_text((10 ** 5000, 3)), "1" + "0" * 5000 + "/3")
        self.assertEqual(ratio_text((1 - 10 ** 5000, 10 ** 5000)), "-" + "9" * 5000 + "/1" + "0" * 5000)

    def test_bad_texts(self):
        for text, at in BAD_RATIOS:
            self.refused(read_ratio, text, at)

    def test_the_other_way_of_reading(self):
        for text, at in BAD_RATIOS:
            self.assertEqual(plain_read_ratio(text), at, text)

    def test_changed_texts(self):
        source = random.Random(51)
        texts = ["0", "-5/3", "12", "999999999999/999999999998", "-100/7", "1/2"]
        for turn in range(6):
            texts.extend([changed(source, source.choice(texts), "0123456789 -+/x") for _ in range(1000)])
        self.against(read_ratio, plain_read_ratio, texts)

    def test_all_short_texts(self):
        texts = [""]
        for length in range(6):
            self.against(read_ratio, plain_read_ratio, texts + ["0", ""])
            texts = [text + sign for text in texts for sign in "0123-/ "[:7 if length < 4 else 6]]


if __name__ == "__main__":
    unittest.main()
