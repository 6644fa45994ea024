"""What parts, moves, renames and cuts do to figures: asked of figures and point themselves."""

import unittest
from decimal import Decimal
from fractions import Fraction

from tests.helper import (MODES, QUARTER, ask, copier, cut, figure, inversor, length_of, onward, printed, rename,
                          round_one, rounded, scale, shift, stands, straight, take, told, turned_left, way_to)

PLACES = [(0, 1), (1, 0), (1, 1), (1, 3), (-2, 5), (7, -4), (49, 48)]
BAR = "pin A 1 2\npin B 60 -5\ncrank C A 20\nrider D C A -1/2 1/3\n"
DYAD = BAR + "dyad E D 50 B 45\nrider F E B 2/3 1\n"
THREE = DYAD + "dyad G F 60 A 70\nrider H G F 1/2 -1/7\ndyad I H 80 C 75\n"


def on_circle(e, r, place):
    """Where a crank about (e, 0) stands."""
    a, b = place
    size = a * a + b * b
    return (e + Fraction(r * (b * b - a * a), size), Fraction(2 * r * a * b, size))


class Case(unittest.TestCase):
    def check_stands(self, wanted, place, sides, i, *calls, modes=MODES):
        """wanted is a point of Fractions or decimals: the modes answer what it's rounded to."""
        for mode in modes:
            self.assertEqual(stands(place[0], place[1], sides, i, mode, *calls),
                             [rounded(wanted[0], mode), rounded(wanted[1], mode)], (place, sides, i, mode))


class Copies(Case):
    def test_of_fixed_points_and_the_crank(self):
        for n, d, length, other in ((2, 5, 60, 55), (-3, 4, 80, 60), (7, 3, 63, 60), (-1, 1, 70, 70)):
            for o, p in ((1, 2), (2, 1), (0, 2), (3, 1)):
                self.check_copier(BAR, o, p, n, d, length, other)

    def test_of_dyads(self):
        for n, d, length, other in ((2, 5, 60, 55), (7, 3, 63, 60), (2, 1, 50, 60)):
            for o, p in ((1, 5), (5, 1), (0, 4), (5, 3)):
                self.check_copier(DYAD, o, p, n, d, length, other)

    def check_copier(self, before, o, p, n, d, length, other):
        calls = (take(before), copier(o, p, n, d, length, other, 25))
        lines = before.count("\n")
        dyads = before.count("dyad")
        seen = 0
        for a, b in PLACES:
            for sides in told(a, b, *calls):
                if (sides >> dyads & 1 == sides >> dyads + 1 & 1) == (n < d):
                    seen += 1
                    points = figure(before, a, b, sides & ((1 << dyads) - 1))[0]
                    copied = onward(points[o], way_to(points[o], points[p]), Decimal(n) / d)
                    self.check_stands(copied, (a, b), sides, lines + 3, *calls)
        self.assertGreater(seen, 0, (o, p, n, d))


class Inverts(Case):
    def test_of_fixed_points_and_the_crank(self):
        for o, p in ((1, 2), (2, 1), (1, 3), (3, 1)):
            self.check_inversor(BAR, o, p, 90, 35)

    def check_inversor(self, before, o, p, a_length, b_length):
        calls = (take(before), inversor(o, p, a_length, b_length, 25))
        n = before.count("\n")
        seen = 0
        for a, b in PLACES:
            for sides in told(a, b, *calls):
                spots = [stands(a, b, sides, i, 0, *calls) for i in (n, n + 1, n + 2, p)]
                if spots[0] != spots[1] and spots[2] != spots[3]:
                    seen += 1
                    points = figure(before, a, b, 0)[0]
                    way = way_to(points[o], points[p])
                    much = (a_length ** 2 - b_length ** 2) / length_of(way) ** 2
                    self.check_stands(onward(points[o], way, much), (a, b), sides, n + 2, *calls)
        self.assertGreater(seen, 0, (o, p))

    def test_the_other_figures_have_it_at_p(self):
        calls = (take(BAR), inversor(1, 2, 90, 35, 25))
        for a, b in PLACES:
            sides = told(a, b, *calls)
            if sides:
                self.assertEqual(sides, [1, 2, 5, 6])
                at_p = [one for one in sides if stands(a, b, one, 6, 0, *calls) == stands(a, b, one, 2, 0, *calls)]
                self.assertEqual(len(at_p), 2)


class Before(Case):
    """Lines before stay, and so do their figures."""

    def check_before(self, before, *calls):
        text = printed(take(before), *calls)
        self.assertTrue(text.startswith(before))
        low = (1 << before.count("dyad")) - 1
        seen = 0
        for a, b in PLACES:
            earlier = told(a, b, take(before))
            for sides in told(a, b, take(text)):
                seen += 1
                self.assertIn(sides & low, earlier)
                for i in range(before.count("\n")):
                    self.assertEqual(stands(a, b, sides, i, 0, take(text)), stands(a, b, sides & low, i, 0, take(before)))
        self.assertGreater(seen, 0)

    def test_copier(self):
        self.check_before(DYAD, copier(1, 5, 2, 5, 60, 55, 25))
        self.check_before(BAR, copier(2, 1, -3, 4, 80, 60, 25))

    def test_inversor(self):
        self.check_before(BAR, inversor(1, 2, 90, 35, 25))

    def test_cut_leaves_what_stands_before(self):
        self.assertEqual(printed(take(THREE), cut(6)), DYAD)
        self.check_before(DYAD, take(THREE), cut(8))


class Moved(Case):
    def each_figure(self):
        for text in (BAR, DYAD, THREE):
            for a, b in PLACES:
                for sides in told(a, b, take(text)):
                    yield text, (a, b), sides, figure(text, a, b, sides)[0]

    def check_each(self, wanted, place, sides, *calls):
        """One mode for each point, another one for the next."""
        for i, point in enumerate(wanted):
            self.check_stands(point, place, sides, i, *calls, modes=[(i + sides) % 4])

    def test_shifted(self):
        for text, place, sides, points in self.each_figure():
            self.check_each([(x - 100, y + 37) for x, y in points], place, sides, take(text), shift(-100, 37))

    def test_turned(self):
        for text, place, sides, points in self.each_figure():
            a, b = place
            self.check_each([turned_left(one) for one in points], (a + b, b - a), sides, take(text), QUARTER)

    def test_enlarged(self):
        for text, place, sides, points in self.each_figure():
            self.check_each([(7 * x, 7 * y) for x, y in points], place, sides, take(text), scale(7))

    def test_told_sides_stay(self):
        for text in (BAR, DYAD, THREE):
            for a, b in PLACES:
                sides = told(a, b, take(text))
                self.assertEqual(told(a, b, take(text), shift(900, -90)), sides)
                self.assertEqual(told(a + b, b - a, take(text), QUARTER), sides)
                self.assertEqual(told(a, b, take(text), scale(12)), sides)

    def test_there_are_three_dyads_that_close(self):
        self.assertGreater(len([1 for text, place, sides, points in self.each_figure() if text == THREE]), 10)


class Edited(Case):
    def test_renamed_figures_are_the_same(self):
        for a, b in PLACES:
            self.assertEqual(told(a, b, take(THREE), rename(4, 25, 9)), told(a, b, take(THREE)))
            for sides in told(a, b, take(THREE)):
                for i in (4, 5, 8):
                    self.assertEqual(stands(a, b, sides, i, 0, take(THREE), rename(4, 25, 9)),
                                     stands(a, b, sides, i, 0, take(THREE)))

    def test_what_is_left_stands_where_it_stood(self):
        # J is cut from between: K stands on where it was, a dyad earlier.
        text = BAR + "dyad J C 40 B 45\ndyad K D 50 B 45\nrider L K B 1 1/3\n"
        seen = 0
        for a, b in PLACES:
            for sides in told(a, b, take(text)):
                seen += 1
                for i, now in ((0, 0), (1, 1), (2, 2), (3, 3), (5, 4), (6, 5)):
                    self.assertEqual(stands(a, b, sides >> 1, now, 0, take(text), cut(4)),
                                     stands(a, b, sides, i, 0, take(text)))
        self.assertGreater(seen, 0)


class Tracers(Case):
    def tracing(self, a, b, call):
        """The sides in which it's put together as an inversor."""
        return [sides for sides in told(a, b, call)
                if stands(a, b, sides, 3, 0, call) != stands(a, b, sides, 4, 0, call)
                and stands(a, b, sides, 5, 0, call) != stands(a, b, sides, 2, 0, call)]

    def test_straight(self):
        for r, a_length, b_length in ((3, 20, 17), (40, 100, 31), (7, 11, 10)):
            seen = 0
            for a, b in PLACES + [(99, 98), (-31, 77)]:
                for sides in self.tracing(a, b, straight(r, a_length, b_length)):
                    seen += 1
                    k = a_length ** 2 - b_length ** 2
                    x, y = on_circle(r, r, (a, b))
                    self.assertEqual(k * x / (x * x + y * y), Fraction(k, 2 * r))
                    self.check_stands((Fraction(k, 2 * r), k * y / (x * x + y * y)), (a, b), sides, 5,
                                      straight(r, a_length, b_length))
            self.assertGreater(seen, 4)

    def test_round(self):
        for e, r, a_length, b_length in ((5, 3, 20, 17), (3, 5, 20, 17), (60, 41, 100, 31), (1, 9, 19, 11)):
            call = round_one(e, r, a_length, b_length)
            circle = ask(call)[0][2:]
            centre, radius = Fraction(circle[0], circle[1]), Fraction(circle[2], circle[3])
            seen = 0
            for a, b in PLACES + [(99, 98), (-31, 77)]:
                for sides in self.tracing(a, b, call):
                    seen += 1
                    k = a_length ** 2 - b_length ** 2
                    x, y = on_circle(e, r, (a, b))
                    found = (k * x / (x * x + y * y), k * y / (x * x + y * y))
                    self.assertEqual((found[0] - centre) ** 2 + found[1] ** 2, radius ** 2)
                    self.check_stands(found, (a, b), sides, 5, call)
            self.assertGreater(seen, 4)


if __name__ == "__main__":
    unittest.main()
