"""Promise 60: the desk."""

import unittest

from samples import product

from surefoot.desk import play
from surefoot.texts import written

BAD_ROW = "refused: BadRow"
NO_NUMBER = "refused: NoNumber"
NO_RATIO = "refused: NoRatio"
TOO_GREAT = "refused: TooGreat"

# Numbers for the rows under test: a ratio, 0, one below 0, the root of 2, one of weight 12.
AHEAD = "let a 3/2\nlet o 0\nlet m -4\nroot r 1 x^2 - 2\nroot h 1 x^12 - 2\n"


class Checking(unittest.TestCase):
    def check(self, *rows):
        """Rows with their answers, one desk for all of them."""
        told = play("\n".join([row for row, answer in rows]))
        self.assertIs(type(told), list)
        self.assertEqual([type(answer) for answer in told], [str] * len(told))
        for (row, answer), found in zip(rows, told):
            self.assertEqual(found, answer, row)
        self.assertEqual(len(told), len(rows))

    def after(self, row, answer):
        told = play(AHEAD + row)
        self.assertEqual(told, ["ok"] * 5 + [answer], row)

    def shows(self, row, *following):
        """What a row makes, by the rows behind it."""
        told = play(AHEAD + "\n".join([row] + [following_row for following_row, answer in following]))
        self.assertEqual(told, ["ok"] * 6 + [answer for following_row, answer in following], row)


class Rows(Checking):
    def test_let(self):
        for text in ("0", "5", "-5", "3/2", "-3/2", "999999999999/999999999998", "-999999999999"):
            self.check(("let a " + text, "ok"), ("ratio a", text))

    def test_root(self):
        self.shows("root z 0 x^2 - 2", ("decimal z 3", "-1.415"), ("ratio z", "none"), ("sign z", "-1"))
        self.shows("root z 1 x^2 - 2", ("decimal z 3", "1.414"), ("compare z r", "0"))
        self.shows("root z 0 x", ("ratio z", "0"))
        self.shows("root z 2 2x^3 - 3x^2 - 2x + 3", ("ratio z", "3/2"))
        self.shows("root z 0 -x^3 + 2", ("decimal z 6", "1.259921"))
        poly = written(product(*[[-top, 1] for top in range(1, 13)]))
        for place in range(12):
            self.shows("root z " + str(place) + " " + poly, ("ratio z", str(place + 1)))
        self.after("root z 12 " + poly, NO_NUMBER)

    def test_two_numbers(self):
        self.shows("sum z a m", ("ratio z", "-5/2"))
        self.shows("less z a m", ("ratio z", "11/2"))
        self.shows("product z a m", ("ratio z", "-6"))
        self.shows("over z a m", ("ratio z", "-3/8"))
        self.shows("less z m a", ("ratio z", "-11/2"))
        self.shows("over z m a", ("ratio z", "-8/3"))
        self.shows("sum z a r", ("decimal z 4", "2.9142"), ("ratio z", "none"))
        self.shows("less z a r", ("decimal z 4", "0.0857"))
        self.shows("product z r a", ("decimal z 4", "2.1213"))
        self.shows("over z r a", ("decimal z 4", "0.9428"))
        self.shows("product z r r", ("ratio z", "2"))
        self.shows("less z r r", ("ratio z", "0"))
        self.shows("over z o r", ("ratio z", "0"))
        self.shows("product z o h", ("ratio z", "0"))

    def test_one_number(self):
        self.shows("opposite z a", ("ratio z", "-3/2"))
        self.shows("inverse z a", ("ratio z", "2/3"))
        self.shows("opposite z r", ("decimal z 4", "-1.4143"))
        self.shows("inverse z r", ("decimal z 4", "0.7071"))
        self.shows("opposite z o", ("ratio z", "0"))

    def test_powers_and_roots(self):
        self.shows("power z a 0", ("ratio z", "1"))
        self.shows("power z a 1", ("ratio z", "3/2"))
        self.shows("power z a 12", ("ratio z", "531441/4096"))
        self.shows("power z r 3", ("decimal z 4", "2.8284"))
        self.shows("power z r 12", ("ratio z", "64"))
        self.shows("power z o 0", ("ratio z", "1"))
        self.shows("rootof z a 1", ("ratio z", "3/2"))
        self.shows("rootof z a 2", ("decimal z 6", "1.224744"))
        self.shows("rootof z a 12", ("decimal z 6", "1.034366"))
        self.shows("rootof z r 6", ("compare z h", "0"))
        self.shows("rootof z o 12", ("ratio z", "0"))
        self.check(("let a 8/27", "ok"), ("rootof a a 3", "ok"), ("ratio a", "2/3"))

    def test_count(self):
        for poly, many in (
            ("x", 1), ("7", 0), ("-7", 0), ("x^2 + 1", 0), ("x^2 - 2", 2), ("x^2", 1), ("x^2 - 2x + 1", 1),
            ("x^3 - x", 3), ("x^12 - 1", 2), ("x^12", 1), ("-x^11 + 1", 1),
            (written(product(*[[-number, 0, 1] for number in range(1, 7)])), 12),
        ):
            self.check(("count " + poly, str(many)))

    def test_compare_and_sign_and_floor(self):
        order = "m o r a".split()
        for one in order:
            for other in order:
                places = order.index(one), order.index(other)
                self.after("compare " + one + " " + other, str((places[0] > places[1]) - (places[0] < places[1])))
        for word in ("m -1 -4", "o 0 0", "r 1 1", "a 1 1", "h 1 1"):
            letter, sign, floor = word.split()
            self.after("sign " + letter, sign)
            self.after("floor " + letter, floor)
        self.check(("let a -1/2", "ok"), ("floor a", "-1"), ("sign a", "-1"))
        self.check(("root a 0 x^2 - 2", "ok"), ("floor a", "-2"), ("compare a a", "0"))

    def test_decimal(self):
        self.after("decimal r 0", "1")
        self.after("decimal r 1", "1.4")
        self.after("decimal r 30", "1.414213562373095048801688724209")
        self.after("decimal m 3", "-4.000")
        self.after("decimal m 0", "-4")
        self.after("decimal o 2", "0.00")
        self.after("decimal a 10", "1.5000000000")
        self.after("decimal r 29", "1.41421356237309504880168872420")

    def test_ratio(self):
        for letter, text in (("a", "3/2"), ("o", "0"), ("m", "-4"), ("r", "none"), ("h", "none")):
            self.after("ratio " + letter, text)

    def test_all_letters(self):
        letters = "abcdefghijklmnopqrstuvwxyz"
        rows = [("let " + letter + " " + str(k), "ok") for k, letter in enumerate(letters)]
        self.check(*rows, *[("ratio " + letter, str(k)) for k, letter in enumerate(letters)])

    def test_letters_put_anew(self):
        self.check(
            ("let a 3", "ok"), ("sum a a a", "ok"), ("ratio a", "6"), ("product a a a", "ok"), ("ratio a", "36"),
            ("inverse a a", "ok"), ("opposite a a", "ok"), ("ratio a", "-1/36"), ("power a a 2", "ok"),
            ("ratio a", "1/1296"), ("rootof a a 4", "ok"), ("ratio a", "1/6"), ("let b 2", "ok"), ("less a b a", "ok"),
            ("ratio a", "11/6"), ("over a a a", "ok"), ("ratio a", "1"), ("let a 0", "ok"), ("ratio a", "0"),
            ("root a 1 x^2 - 5", "ok"), ("ratio a", "none"), ("less a a a", "ok"), ("ratio a", "0"), ("ratio b", "2"),
        )

    def test_a_number_stays_when_its_source_changes(self):
        self.check(
            ("let a 3", "ok"), ("sum b a a", "ok"), ("let a 5", "ok"), ("ratio b", "6"), ("ratio a", "5"),
            ("power c b 1", "ok"), ("let b 0", "ok"), ("ratio c", "6"),
        )

    def test_very_long_numbers(self):
        told = play("let a 10\n" + "power a a 12\n" * 4 + "ratio a\nfloor a\ndecimal a 1\nopposite a a\nfloor a")
        figures = "1" + "0" * 12 ** 4
        self.assertEqual(told, ["ok"] * 5 + [figures, figures, figures + ".0", "ok", "-" + figures])


class Passed(Checking):
    def test_rows_passed_over(self):
        self.assertEqual(play(""), [])
        self.assertEqual(play("\n"), [])
        self.assertEqual(play("   "), [])
        self.assertEqual(play("\n \n   \n\n"), [])
        self.assertEqual(play("\nlet a 5\n\n  \nratio a\n \n"), ["ok", "5"])
        self.assertEqual(play("let a 5\nratio a"), ["ok", "5"])

    def test_twice(self):
        text = AHEAD + "sum z a r\ndecimal z 5\nover z z o\ncount x^^\nratio q"
        first = play(text)
        kept = list(first)
        first.clear()
        first.append("7")
        second = play(text)
        self.assertEqual(second, kept)
        second[0] = "no"
        self.assertEqual(play(text), kept)
        # A desk holds nothing at first, whatever another one held.
        self.assertEqual(play("ratio a"), [NO_NUMBER])


class Refused(Checking):
    def test_words(self):
        for row in (
            "put a 5", "Let a 5", "LET a 5", "lets a 5", "le a 5", "root", "let", "a", "5", "x^2 - 2", "let a", "let 5",
            "rootof", "rootof a", "rootof a r", "roots a", "sum", "sum a", "sum a b", "sum a a", "power a a", "count",
            "compare", "compare a", "sign", "floor", "decimal", "decimal a", "ratio", "inverse a", "opposite a",
            "near a 5", "root a", "root a 0", "root a x", "weight a", "letters a 5", "let\ta 5", "-", "~",
        ):
            self.after(row, BAD_ROW)

    def test_too_many_words(self):
        for row in (
            "let z 5 6", "let z 5 /3", "sum z a a a", "less z a a a", "product z a a 1", "over z a a o",
            "opposite z a a", "inverse z a 1", "power z a 2 2", "rootof z a 2 x", "compare a a a", "sign a a",
            "floor a 1",
            "decimal a 3 3", "ratio a a", "let z 1 / 2", "let z - 5",
        ):
            self.after(row, BAD_ROW)

    def test_blanks(self):
        for row in (
            " let z 5", "  let z 5", "let  z 5", "let z  5", "let z 5 ", "let z 5  ", "sum  z a a", "sum z  a a",
            "sum z a  a", "sum z a a ", " sum z a a", "opposite z a ", "sign  a", "sign a ", " sign a", "ratio a ",
            " ratio a", "decimal a 3 ", "decimal a  3", " count x", "  count x", " root z 0 x", "root  z 0 x",
            "root z  0 x", "power z a 2 ", "rootof z  a 2", "compare a  a", "sum ", "ratio ", "sum z a ", "root z ",
        ):
            self.after(row, BAD_ROW)

    def test_letters(self):
        for letter in ("A", "Z", "aa", "1", "-", "", "x1", "~", "a,"):
            for row in (
                "let {} 5", "root {} 0 x", "sum {} a a", "sum z {} a", "sum z a {}", "opposite {} a", "opposite z {}",
                "power {} a 2", "power z {} 2", "rootof z {} 2", "compare {} a", "compare a {}", "sign {}", "floor {}",
                "decimal {} 3", "ratio {}", "less {} a a", "over z a {}", "product z {} a", "inverse {} a",
            ):
                self.after(row.format(letter), BAD_ROW)

    def test_counts(self):
        wrong = ("00", "01", "012", "100", "-1", "+1", "x", "", "1/2", "1.", "99", "000", "0x")
        for row, others in (
            ("root z {} x", ("13", "20", "1x", "x^2")), ("power z a {}", ("13", "30")), ("rootof z a {}", ("0", "13")),
            ("decimal a {}", ("31", "40", "a")),
        ):
            for word in wrong + others:
                self.after(row.format(word), BAD_ROW)
        self.after("root z 12 x", NO_NUMBER)
        self.after("root z 10 x", NO_NUMBER)
        self.after("power z a 12", "ok")
        self.after("rootof z a 12", "ok")
        self.after("decimal a 30", "1." + "5".ljust(30, "0"))

    def test_bad_texts(self):
        for text, at in (
            ("-0", 1), ("00", 0), ("x", 0), ("1/0", 2), ("5/1", 2), ("4/2", 2), ("-4/2", 3), ("1/2x", 3),
            ("1234567890123", 0), ("5.", 1), ("-", 1), ("1/", 2), ("+1", 0), ("--1", 1),
        ):
            self.after("let z " + text, "refused: BadText " + str(at))
        for text, at in (
            ("x^1", 2), ("x^13", 2), ("1x", 0), ("x + x", 4), ("x +1", 1), ("x  + 1", 1), ("x ", 1), (" x", 0),
            ("x^2 - 2 ", 7), ("x^2 - ", 6), ("-0", 1), ("0 + x", 0), ("y", 0), ("x^2 - 2x  - 1", 8), ("  ", 0),
            ("x^2 + 3 2", 7), ("1234567890123", 0), ("x^12 - x^2 + x^2", 13),
        ):
            self.after("count " + text, "refused: BadText " + str(at))
            self.after("root z 0 " + text, "refused: BadText " + str(at))
            self.after("root z 12 " + text, "refused: BadText " + str(at))

    def test_empty_texts(self):
        for row in ("let z ", "count ", "root z 0 "):
            self.after(row, "refused: BadText 0")

    def test_nothing_held(self):
        for row in (
            "sum z a q", "sum z q a", "sum z q q", "sum q q a", "less z q a", "product z a q", "over z q a",
            "over z a q", "over z q o", "opposite z q", "inverse z q", "power z q 0", "rootof z q 1", "compare a q",
            "compare q a",
            "sign q", "floor q", "decimal q 0", "ratio q", "product z o q", "product z q o", "less q q q",
        ):
            self.after(row, NO_NUMBER)

    def test_nought(self):
        self.after("count 0", NO_NUMBER)
        self.after("root z 0 0", NO_NUMBER)
        self.after("root z 12 0", NO_NUMBER)

    def test_no_such_root(self):
        for row in ("root z 0 5", "root z 0 x^2 + 1", "root z 2 x^2 - 2", "root z 1 x^2", "root z 12 x^12 - 1"):
            self.after(row, NO_NUMBER)

    def test_what_the_functions_refuse(self):
        for row in ("inverse z o", "over z a o", "over z o o", "over z h o", "over o o o"):
            self.after(row, NO_RATIO)
        for row in ("rootof z m 1", "rootof z m 2", "rootof m m 12"):
            self.after(row, NO_NUMBER)
        for row in (
            "sum z h r", "less z h h", "product z r h", "over z r h", "over z h h", "power z h 2", "power z h 12",
            "rootof z h 2", "rootof z r 7", "rootof z r 12",
        ):
            self.after(row, TOO_GREAT)
        self.after("sum z h a", "ok")
        self.after("rootof z r 6", "ok")
        self.after("rootof z h 1", "ok")
        self.after("sum z h o", "ok")

    def test_two_due_in_one_row(self):
        # A row that is none comes first, whatever else is wrong.
        for row in (
            "let Z x", "let z x y", "root Z 0 x^^", "root z 13 x^^", "root z 00 0", "sum Z q q", "sum z q",
            "over z h Q", "power z q 13", "rootof z q 0", "rootof z m 13", "decimal q 31", "compare q A",
            "inverse Z o", "root z x^1",
        ):
            self.after(row, BAD_ROW)
        # Then a bad text, ahead of nth.
        self.after("root z 12 x^2 - 2x^2", "refused: BadText 6")
        self.after("root z 5 0x", "refused: BadText 0")
        # Then a letter with nothing under it, ahead of what the functions refuse.
        for row in ("over z q o", "over z h q", "rootof z q 12", "sum z h q", "power z q 12"):
            self.after(row, NO_NUMBER)
        # Of the functions' refusals the first that a point names.
        self.check(
            ("root h 0 x^12 - 2", "ok"), ("let o 0", "ok"), ("over z h o", NO_RATIO), ("rootof z h 12", NO_NUMBER),
        )

    def test_a_letter_holds_what_it_held(self):
        for row in (
            "let a x", "let a 4/2", "let a 5 6", "root a 0 x^1", "root a 0 0", "root a 2 x^2 - 2", "root a 13 x",
            "sum a a q", "sum a h r", "over a a o", "inverse a o", "opposite a q", "power a h 2", "power a a 13",
            "rootof a m 2", "rootof a h 2", "rootof a a 0", "product a q o", "less a h h",
        ):
            told = play(AHEAD + row + "\nratio a\nfloor m\ndecimal r 3\nratio o\nfloor h")
            self.assertTrue(told[5].startswith("refused: "), row)
            self.assertEqual(told[6:], ["3/2", "-4", "1.414", "0", "1"], row)
        self.check(("let q x", "refused: BadText 0"), ("ratio q", NO_NUMBER), ("let q 1", "ok"), ("ratio q", "1"))
        self.check(("inverse q q", NO_NUMBER), ("let q 0", "ok"), ("inverse q q", NO_RATIO), ("ratio q", "0"))

    def test_rows_behind_a_refusal_are_done(self):
        self.check(
            ("let a 5", "ok"), ("what", BAD_ROW), ("ratio a", "5"), ("over b a c", NO_NUMBER), ("let c 0", "ok"),
            ("over b a c", NO_RATIO), ("let c 2", "ok"), ("over b a c", "ok"), ("ratio b", "5/2"),
        )


if __name__ == "__main__":
    unittest.main()
