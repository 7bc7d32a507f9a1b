"""Promise 1: what is handed in stays as it was, and what is told in lists is the asker's own."""

import copy
import types
import unittest

from samples import GREAT, drawn, product

import surefoot
from surefoot import desk, errors, field, isolating, numbers, polys, ratios, texts

POLYS = [[], [1], [-6], [0, 1], [4, -6], [-1, 0, 1], [1, 2, 1], product([1, 2], [1, 2], [3, -5]), drawn(1, 9, GREAT)]
RATIOS = [(0, 1), (-1, 2), (GREAT, 3)]
POWERS = product([-1, 1], [-1, 1], [2, 4])
WIDTHS = [(5, 1), (1, 2 ** 60)]
TOO_GREAT = [1] + [0] * 12 + [-6]
HEAVY = numbers.nth([-2] + [0] * 11 + [1], 1)
NOUGHT = numbers.of_ratio((0, 1))
ROWS = "let a 3/2\nroot b 1 x^2 - 2\nsum c a b\ndecimal c 9\nratio c\nover d a e\ncount x^2 - 1\ncount 1x\n\nwhat"


def calls():
    """Each function with the arguments of a call of it, all of them made anew."""
    found = []
    for poly in POLYS:
        for name in ("trimmed", "degree", "derivative", "content", "primitive"):
            found.append((getattr(polys, name), [poly]))
        for factor in (0, 1, -3):
            found.append((polys.scaled, [poly, factor]))
        for given in RATIOS:
            found.append((polys.sign_at, [poly, given]))
        for other in POLYS:
            for name in ("added", "multiplied", "divisor_of"):
                found.append((getattr(polys, name), [poly, other]))
        if poly:
            found.append((polys.square_free, [poly]))
            found.append((polys.quotient, [product(poly, POWERS), poly]))
            found.append((polys.quotient, [poly, [1]]))
    for row in ([0, 0], [1, 0], [0, 0, 3]):
        found.append((polys.trimmed, [row]))
    for one in RATIOS:
        for other in RATIOS:
            for name in ("plus", "minus", "times", "middle", "order_of"):
                found.append((getattr(ratios, name), [one, other]))
    found.extend(calls_for_roots() + calls_for_field() + calls_for_texts())
    return [(function, copy.deepcopy(given)) for function, given in found]


def calls_for_roots():
    found = []
    for poly in POLYS[1:]:
        found.append((isolating.isolated, [poly]))
        found.append((numbers.roots, [poly]))
        found.append((isolating.counted_in, [poly, RATIOS[1], RATIOS[2]]))
        for k, pair in enumerate(isolating.isolated(poly)):
            found.append((numbers.nth, [poly, k]))
            for width in WIDTHS:
                found.append((isolating.refined, [poly, pair, width]))
    several = [numbers.of_ratio(given) for given in RATIOS]
    several.extend(number for poly in POLYS[1:] for number in numbers.roots(poly))
    several.extend(numbers.roots(product([-2, 0, 1], [-3, 0, 1])) + numbers.roots([-2, 0, 1]))
    for number in several:
        for name in ("sign_of", "as_ratio", "floor_of", "weight_of"):
            found.append((getattr(numbers, name), [number]))
        found.extend((numbers.compared, [number, other]) for other in several)
    found.extend((numbers.of_ratio, [given]) for given in RATIOS)
    return found


def calls_for_field():
    found = []
    several = [numbers.of_ratio(given) for given in RATIOS]
    several.extend(numbers.roots([0, -2, 0, 1]) + [numbers.nth([-2, 0, 0, 1], 0), numbers.nth([-4, 1, 0, 0, 1], 1)])
    for one in several:
        found.extend((field.near, [one, width]) for width in WIDTHS)
        found.extend((field.power_of, [one, many]) for many in (0, 1))
        found.extend((texts.decimal, [one, digits]) for digits in (0, 7))
        found.append((field.opposite, [one]))
        if numbers.sign_of(one) >= 0:
            found.extend((field.root_of, [one, many]) for many in (1, 3))
        if numbers.sign_of(one) != 0:
            found.append((field.inverse, [one]))
        for other in several:
            if numbers.weight_of(one) * numbers.weight_of(other) <= 12:
                for name in ("added_to", "less", "multiplied_by"):
                    found.append((getattr(field, name), [one, other]))
                if numbers.sign_of(other) != 0:
                    found.append((field.over, [one, other]))
    return found


def calls_for_texts():
    found = [(texts.written, [poly]) for poly in POLYS] + [(texts.ratio_text, [given]) for given in RATIOS]
    found.extend((texts.read, [text]) for text in ("0", "x^2 - 2", "-3x^12 + x - 1"))
    found.extend((texts.read_ratio, [text]) for text in ("0", "-3/2"))
    found.append((desk.play, [ROWS]))
    return found


def plain(value):
    """A value with its lists and numbers taken apart, so that two of them can be compared."""
    if isinstance(value, numbers.Root):
        return {name: plain(part) for name, part in vars(value).items()}
    if isinstance(value, (list, tuple)):
        return (type(value), [plain(part) for part in value])
    return value


class HandedIn(unittest.TestCase):
    def test_nothing_is_changed(self):
        for function, given in calls():
            before = plain(given)
            function(*given)
            self.assertEqual(plain(given), before, function.__name__)

    def test_nothing_is_changed_by_what_is_refused(self):
        for function, given in (
            (isolating.isolated, [TOO_GREAT]), (numbers.roots, [TOO_GREAT]), (numbers.nth, [TOO_GREAT, 0]),
            (numbers.nth, [[-2, 0, 1], 2]), (numbers.nth, [[-2, 0, 1], -1]), (numbers.nth, [[4], 0]),
            (field.added_to, [HEAVY, HEAVY]), (field.less, [HEAVY, HEAVY]), (field.multiplied_by, [HEAVY, HEAVY]),
            (field.over, [HEAVY, HEAVY]), (field.over, [HEAVY, NOUGHT]), (field.inverse, [NOUGHT]),
            (field.power_of, [HEAVY, 2]), (field.root_of, [HEAVY, 2]), (field.root_of, [field.opposite(HEAVY), 2]),
            (texts.read, ["x^1"]), (texts.read_ratio, ["4/2"]),
        ):
            before = plain(given)
            for _ in range(2):
                with self.assertRaises(errors.FootError):
                    function(*given)
                self.assertEqual(plain(given), before, function.__name__)

    def test_the_same_list_twice(self):
        for function in (polys.added, polys.multiplied, polys.divisor_of, polys.quotient):
            poly = [4, -6]
            told = function(poly, poly)
            self.assertEqual(poly, [4, -6])
            self.assertEqual(told, function([4, -6], [4, -6]))

    def test_told_lists_are_the_asker_s_own(self):
        for function, given in calls():
            told = function(*given)
            if not isinstance(told, list):
                continue
            before = plain(given)
            first = plain(told)
            told.append(99)
            told[0] = 98
            self.assertEqual(plain(given), before, function.__name__)
            again = function(*given)
            self.assertEqual(plain(again), first, function.__name__)
            self.assertIsNot(again, told)

    def test_numbers_don_t_hang_on_the_lists_that_they_came_of(self):
        poly = [-2, 0, 1]
        told = numbers.roots(poly)
        number = told[1]
        other = numbers.nth(poly, 1)
        told.clear()
        poly[0] = -9
        poly.append(1)
        for one in (number, other):
            self.assertEqual((numbers.floor_of(one), numbers.weight_of(one), numbers.as_ratio(one)), (1, 2, None))
            self.assertEqual(numbers.compared(one, numbers.nth([-2, 0, 1], 1)), 0)

    def test_told_again_whatever_was_told_between(self):
        first = [plain(function(*given)) for function, given in calls()]
        second = [plain(function(*given)) for function, given in reversed(calls())]
        self.assertEqual(first, list(reversed(second)))

    def test_what_is_told_of_a_number_does_not_hang_on_it(self):
        number = numbers.nth([0, -2, 0, 1], 2)
        told = [field.opposite(number), field.inverse(number), field.root_of(number, 1), field.power_of(number, 1)]
        told.append(field.added_to(number, NOUGHT))
        first = plain(told)
        number.poly[0] = 99
        self.assertEqual(plain(told), first)

    def test_an_own_number_is_told_the_same_again(self):
        number = numbers.nth([-2, 0, 1], 1)
        nearer = numbers.of_ratio((141421356, 10 ** 8))
        first = [numbers.compared(number, nearer), numbers.floor_of(number), numbers.sign_of(number)]
        self.assertEqual(first, [numbers.compared(number, nearer), numbers.floor_of(number), numbers.sign_of(number)])
        self.assertEqual(first, [1, 1, 1])

    def test_the_package_binds_nothing(self):
        for name, value in vars(surefoot).items():
            # Python itself binds the package's files here, once they are imported.
            if not name.startswith("__"):
                self.assertIsInstance(value, types.ModuleType)
                self.assertEqual(value.__name__, "surefoot." + name)


if __name__ == "__main__":
    unittest.main()
