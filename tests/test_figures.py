"""F1, F2, F3 on the figures themselves, which the tests work out in floats."""

import unittest

from tests.helper import QUARTER, copier, figure, inversor, printed, scale, shift, take

PLACES = [(0, 1), (1, 0), (1, 1), (1, 3), (-2, 5), (7, -4), (99, 98)]
BAR = "pin A 1 2\npin B 60 -5\ncrank C A 20\nrider D C A -1/2 1/3\n"
DYAD = BAR + "dyad E D 50 B 45\nrider F E B 2/3 1\n"


class Figures(unittest.TestCase):
    def near(self, found, wanted):
        self.assertLess(abs(found - wanted), 1e-6)

    def all_near(self, found, wanted):
        self.assertEqual(len(found), len(wanted))
        for one, other in zip(found, wanted):
            self.near(one, other)

    def test_copier_copies(self):
        for n, d, length, other in ((2, 5, 60, 55), (-3, 4, 80, 60), (7, 3, 63, 60), (2, 1, 50, 60), (-1, 1, 70, 70)):
            for o, p in ((1, 5), (5, 1), (0, 5), (5, 3)):
                self.check_copier(printed(take(DYAD), copier(o, p, n, d, length, other, 25)), o, p, n / d)

    def check_copier(self, text, o, p, k):
        told = 0
        for a, b in PLACES:
            for sides in range(8):
                points = figure(text, a, b, sides)
                first, second = sides >> 1 & 1, sides >> 2 & 1
                if points is None or (first == second) != (k < 1):
                    continue
                told += 1
                self.near(points[9], points[o] + k * (points[p] - points[o]))
        self.assertGreater(told, 0)

    def test_inversor_inverts(self):
        for o, p in ((1, 2), (2, 1), (1, 3)):
            text = printed(take(BAR), inversor(o, p, 90, 35, 25))
            told = 0
            for a, b in PLACES:
                for sides in range(8):
                    points = figure(text, a, b, sides)
                    if points is None or abs(points[6] - points[p]) < 1e-6 or abs(points[4] - points[5]) < 1e-6:
                        continue
                    told += 1
                    way = points[p] - points[o]
                    self.near(points[6], points[o] + way * (90 * 90 - 35 * 35) / abs(way) ** 2)
            self.assertGreater(told, 0)

    def test_lines_and_figures_before_stay(self):
        for call, before in ((copier(1, 5, 2, 5, 60, 55, 25), DYAD), (inversor(1, 2, 90, 35, 25), BAR)):
            text = printed(take(before), call)
            self.assertTrue(text.startswith(before))
            dyads = before.count("dyad")
            for a, b in PLACES:
                for sides in range(8):
                    points = figure(text, a, b, sides)
                    if points is not None:
                        earlier = figure(before, a, b, sides & ((1 << dyads) - 1))
                        self.assertEqual(points[:len(earlier)], earlier)

    def test_shifted_turned_enlarged(self):
        shifted = printed(take(DYAD), shift(-100, 37))
        turned = printed(take(DYAD), QUARTER)
        enlarged = printed(take(DYAD), scale(7))
        for a, b in PLACES:
            for sides in (0, 1):
                points = figure(DYAD, a, b, sides)
                self.assertIsNotNone(points)
                self.all_near(figure(shifted, a, b, sides), [point + complex(-100, 37) for point in points])
                self.all_near(figure(turned, a + b, b - a, sides), [point * 1j for point in points])
                self.all_near(figure(enlarged, a, b, sides), [point * 7 for point in points])


if __name__ == "__main__":
    unittest.main()
