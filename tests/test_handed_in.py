"""Promise 1: what is handed in stays as it was, and what is told in lists is the asker's own."""

import copy
import types
import unittest

from samples import GREAT, drawn, product

import surefoot
from surefoot import polys, ratios

POLYS = [[], [1], [-6], [0, 1], [4, -6], [-1, 0, 1], [1, 2, 1], product([1, 2], [1, 2], [3, -5]), drawn(1, 9, GREAT)]
RATIOS = [(0, 1), (-1, 2), (GREAT, 3)]
POWERS = product([-1, 1], [-1, 1], [2, 4])


def calls():
    """Each function with the arguments of a call of it, all of them made anew."""
    found = []
    for poly in POLYS:
        for name in ("trimmed", "degree", "derivative", "content", "primitive"):
            found.append((getattr(polys, name), [poly]))
        for factor in (0, 1, -3):
            found.append((polys.scaled, [poly, factor]))
        for given in RATIOS:
            found.append((polys.sign_at, [poly, given]))
        for other in POLYS:
            for name in ("added", "multiplied", "divisor_of"):
                found.append((getattr(polys, name), [poly, other]))
        if poly:
            found.append((polys.square_free, [poly]))
            found.append((polys.quotient, [product(poly, POWERS), poly]))
            found.append((polys.quotient, [poly, [1]]))
    for row in ([0, 0], [1, 0], [0, 0, 3]):
        found.append((polys.trimmed, [row]))
    for one in RATIOS:
        for other in RATIOS:
            for name in ("plus", "minus", "times", "middle", "order_of"):
                found.append((getattr(ratios, name), [one, other]))
    return [(function, copy.deepcopy(given)) for function, given in found]


class HandedIn(unittest.TestCase):
    def test_nothing_is_changed(self):
        for function, given in calls():
            before = copy.deepcopy(given)
            function(*given)
            self.assertEqual(given, before, function.__name__)

    def test_the_same_list_twice(self):
        for function in (polys.added, polys.multiplied, polys.divisor_of, polys.quotient):
            poly = [4, -6]
            told = function(poly, poly)
            self.assertEqual(poly, [4, -6])
            self.assertEqual(told, function([4, -6], [4, -6]))

    def test_told_lists_are_the_asker_s_own(self):
        for function, given in calls():
            told = function(*given)
            if not isinstance(told, list):
                continue
            before = copy.deepcopy(given)
            first = list(told)
            told.append(99)
            told[0] = 98
            self.assertEqual(given, before, function.__name__)
            again = function(*given)
            self.assertEqual(again, first, function.__name__)
            self.assertIsNot(again, told)

    def test_told_again_whatever_was_told_between(self):
        first = [function(*given) for function, given in calls()]
        second = [function(*given) for function, given in reversed(calls())]
        self.assertEqual(first, list(reversed(second)))

    def test_the_package_binds_nothing(self):
        for name, value in vars(surefoot).items():
            # Python itself binds the package's files here, once they are imported.
            if not name.startswith("__"):
                self.assertIsInstance(value, types.ModuleType)
                self.assertEqual(value.__name__, "surefoot." + name)


if __name__ == "__main__":
    unittest.main()
