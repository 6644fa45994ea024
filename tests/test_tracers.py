"""straight and round: the lines that are made, the circle's numbers, the refusals."""

import unittest
from fractions import Fraction

from tests.helper import BASE, HUGE, Refusals, ask, cut, printed, round_one, shift, straight, take


def made(e, r, a, b):
    return (f"pin A 0 0\npin B {e} 0\ncrank C B {r}\ndyad D A {a} C {b}\ndyad D1 A {a} C {b}\n"
            f"dyad D2 D {b} D1 {b}\n")


class Straight(Refusals):
    def test_the_text(self):
        for r, a, b in ((3, 20, 7), (1, 2, 1), (999, 999, 998), (12, 999, 1)):
            self.assertEqual(ask(straight(r, a, b)), [[6]])
            self.assertEqual(printed(straight(r, a, b)), made(r, r, a, b))

    def test_in_the_place_of_another(self):
        self.assertEqual(printed(take(BASE), straight(3, 20, 7)), made(3, 3, 20, 7))
        self.assertEqual(printed(straight(3, 20, 7), straight(4, 21, 8)), made(4, 4, 21, 8))

    def test_it_is_the_objects_from_then_on(self):
        self.assertEqual(ask(straight(3, 20, 7), cut(4), shift(1, 1)), [[6], [4], [4]])

    def test_wrong_numbers(self):
        for r, a, b in ((0, 20, 7), (1000, 20, 7), (HUGE, 20, 7), (3, 1000, 7), (3, HUGE, 7), (3, 0, 7), (3, 20, 0),
                        (3, 20, 20), (3, 7, 20), (3, 1, 1), (3, 1001, 1000), (3, 20, HUGE), (3, 1, 0), (0, 0, 0)):
            self.check(-1, straight(r, a, b))
            self.check(-1, take(BASE), straight(r, a, b))


class Round(Refusals):
    def check_round(self, e, r, a, b, *circle):
        self.assertEqual(ask(round_one(e, r, a, b)), [[6, 4] + list(circle)])
        self.assertEqual(printed(round_one(e, r, a, b)), made(e, r, a, b))

    def test_e_above_r(self):
        # k = 351, e e - r r = 7
        self.check_round(4, 3, 20, 7, 1404, 7, 1053, 7)
        self.check_round(2, 1, 2, 1, 2, 1, 1, 1)

    def test_e_below_r(self):
        self.check_round(3, 4, 20, 7, -1053, 7, 1404, 7)
        self.check_round(1, 2, 2, 1, -1, 1, 2, 1)

    def test_lowest_terms_of_each(self):
        # k = 27, e e - r r = 72 and -72
        self.check_round(9, 3, 6, 3, 27, 8, 9, 8)
        self.check_round(3, 9, 6, 3, -9, 8, 27, 8)
        # k = 3, e e - r r = 32
        self.check_round(6, 2, 2, 1, 9, 16, 3, 16)
        self.check_round(999, 1, 2, 1, 2997, 998000, 3, 998000)

    def test_the_bounds(self):
        for e, r, a, b in ((999, 998, 999, 1), (1, 999, 999, 998), (998, 999, 999, 998), (999, 1, 2, 1)):
            answer = ask(round_one(e, r, a, b))[0]
            k = a * a - b * b
            centre = Fraction(k * e, e * e - r * r)
            radius = abs(Fraction(k * r, e * e - r * r))
            self.assertEqual(answer, [6, 4, centre.numerator, centre.denominator, radius.numerator, radius.denominator])

    def test_every_small_one_is_in_lowest_terms(self):
        for e in range(1, 9):
            for r in range(1, 9):
                for a, b in ((5, 4), (6, 2), (10, 1)):
                    if e != r:
                        k = a * a - b * b
                        centre = Fraction(k * e, e * e - r * r)
                        radius = abs(Fraction(k * r, e * e - r * r))
                        self.check_round(e, r, a, b, centre.numerator, centre.denominator, radius.numerator,
                                         radius.denominator)

    def test_in_the_place_of_another(self):
        self.assertEqual(printed(take(BASE), round_one(3, 5, 20, 7)), made(3, 5, 20, 7))

    def test_wrong_numbers(self):
        for e, r, a, b in ((3, 3, 20, 7), (999, 999, 20, 7), (0, 3, 20, 7), (3, 0, 20, 7), (1000, 3, 20, 7),
                           (3, 1000, 20, 7), (HUGE, 3, 20, 7), (3, HUGE, 20, 7), (HUGE, HUGE, 20, 7), (4, 3, 1000, 7),
                           (4, 3, 0, 7), (4, 3, 20, 0), (4, 3, 20, 20), (4, 3, 19, 20), (4, 3, HUGE, 20),
                           (4, 3, 20, HUGE), (4, 3, 1, 1), (0, 0, 0, 0)):
            self.check(-1, round_one(e, r, a, b))
            self.check(-1, take(BASE), round_one(e, r, a, b))


if __name__ == "__main__":
    unittest.main()
