"""Exact numbers with roots and the doubles they're rounded to, nearer to borders than any small linkage comes."""

import random
import unittest
from decimal import Decimal
from fractions import Fraction

from linkparts.doubles import double_bits
from linkparts.enclosures import enclosed, enclosed_roots, product, root_below
from linkparts.surds import minus, plus, sign_of, times, with_root
from tests.helper import MODES, NEAR

MINUS = 1 << 63
LEAST = Fraction(1, 1 << 1074)
ROOT_OF_2 = (2,)


def near_root_of_2(steps):
    """p and q: p - q times the root of 2 is above 0 and about 2.4 ** -steps; p p - 2 q q is 1."""
    p, q = 3, 2
    for _ in range(steps):
        p, q = 3 * p + 4 * q, 2 * p + 3 * q
    return p, q


def decimal_value(number, squares):
    """A number with roots, to many digits."""
    if len(number) == 1:
        return Decimal(number[0])
    half = len(number) // 2
    root = decimal_value(squares[half.bit_length() - 1], squares).sqrt()
    return decimal_value(number[:half], squares) + decimal_value(number[half:], squares) * root


def bits(value, mode):
    """Of a Fraction."""
    return double_bits((value.numerator,), (value.denominator,), (), mode)


class Roots(unittest.TestCase):
    def test_whole_roots(self):
        for root in list(range(70)) + [10 ** 50, 1 << 300]:
            self.assertEqual(root_below(root * root), root)
            self.assertEqual(root_below(root * root + 2 * root), root)
            if root > 0:
                self.assertEqual(root_below(root * root - 1), root - 1)

    def test_signs_near_0(self):
        for steps in (0, 1, 50, 300):
            p, q = near_root_of_2(steps)
            self.assertEqual(sign_of((p, -q), (ROOT_OF_2,)), 1)
            self.assertEqual(sign_of((-p, q), (ROOT_OF_2,)), -1)
            self.assertEqual(sign_of((p - 1, -q), (ROOT_OF_2,)), -1)
            self.assertEqual(sign_of((p, q), (ROOT_OF_2,)), 1)
            self.assertEqual(sign_of((-p, -q), (ROOT_OF_2,)), -1)

    def test_signs_of_halves_that_are_0(self):
        for a, b, sign in ((0, 0, 0), (0, 5, 1), (0, -5, -1), (5, 0, 1), (-5, 0, -1)):
            self.assertEqual(sign_of((a, b), (ROOT_OF_2,)), sign)
            self.assertEqual(sign_of((0, 0, a, b), (ROOT_OF_2, (3,))), sign_of((a, b), (ROOT_OF_2,)))

    def test_a_root_that_is_whole(self):
        self.assertEqual(sign_of((-3, 1), ((9,),)), 0)
        self.assertEqual(sign_of((-3, 1), ((10,),)), 1)
        self.assertEqual(sign_of((-3, 1), ((8,),)), -1)
        self.assertEqual(sign_of((3, -1), ((10,),)), -1)

    def test_a_root_that_the_roots_before_it_hold(self):
        # The root of 8 is two times that of 2; the root of 3 and two times the root of 2 is 1 and the root of 2.
        self.assertEqual(sign_of((0, -2, 1, 0), (ROOT_OF_2, (8,))), 0)
        self.assertEqual(sign_of((-1, -1, 1, 0), (ROOT_OF_2, (3, 2))), 0)
        self.assertEqual(sign_of((1, 1, -1, 0), (ROOT_OF_2, (3, 2))), 0)
        squares = (ROOT_OF_2, (3, 2), (17, 12, 0, 0))
        # The root of 17 and twelve times the root of 2 is 3 and two times the root of 2.
        self.assertEqual(sign_of((3, 2, 0, 0, -1, 0, 0, 0), squares), 0)
        self.assertEqual(sign_of((1, 0, 2, 0, -1, 0, 0, 0), squares), 0)
        self.assertEqual(sign_of((1, 0, 2, 1, -1, 0, 0, 0), squares), 1)
        self.assertEqual(sign_of((0, 0, 2, 0, -1, 0, 0, 0), squares), -1)

    def test_sums_and_products(self):
        squares = (ROOT_OF_2, (3,))
        self.assertEqual(plus((1,), (2, 3)), (3, 3))
        self.assertEqual(minus((1,), (2, 3)), (-1, -3))
        self.assertEqual(times((1, 2), (3, 4), squares), (19, 10))
        self.assertEqual(times((5,), (1, 2, 3, 4), squares), (5, 10, 15, 20))
        self.assertEqual(times((1, 1), (1, 2, 3, 4), squares), times((1, 2, 3, 4), (1, 1), squares))
        self.assertEqual(times((1, 1), (1, 2, 3, 4), squares), (5, 3, 11, 7))
        self.assertEqual(times((0, 0, 1, 1), (0, 0, 1, -1), squares), (-3, 0, 0, 0))
        self.assertEqual(with_root((5,), (7, 8), 2), (5, 0, 0, 0, 7, 8, 0, 0))

    def test_enclosures_hold_the_number(self):
        squares = (ROOT_OF_2, (3, 2), (7, 1, 1, 0))
        dice = random.Random(1)
        for trial in range(600):
            number = tuple(dice.randint(-9, 9) for _ in range(dice.choice((1, 2, 4, 8))))
            value = decimal_value(number, squares)
            for places in (0, 1, 2, 5, 64, 300):
                low, high = enclosed(number, enclosed_roots(squares, places), places)
                self.assertLessEqual(low, value * (1 << places) + NEAR, (number, places))
                self.assertLessEqual(value * (1 << places) - NEAR, high, (number, places))
                self.assertLess(high - low, 3000, (number, places))

    def test_enclosures_of_roots(self):
        for under in list(range(1, 30)) + [10 ** 40]:
            for places in (0, 1, 5, 64):
                low, high = enclosed_roots(((under,),), places)[0]
                self.assertLessEqual(low * low, under << 2 * places)
                self.assertGreater(high * high, under << 2 * places)
                self.assertLessEqual(high - low, 2)

    def test_enclosures_of_roots_within_roots(self):
        # What stands under the second root is known far less well than the first one is.
        for much in (1000, -1000):
            squares = (ROOT_OF_2, (2000, much))
            root = decimal_value(squares[1], squares).sqrt()
            for places in (0, 1, 5, 64, 300):
                low, high = enclosed_roots(squares, places)[1]
                self.assertLessEqual(low, root * (1 << places) + NEAR, (much, places))
                self.assertLessEqual(root * (1 << places) - NEAR, high, (much, places))
                self.assertLess(high - low, 3000, (much, places))

    def test_enclosures_of_products(self):
        for x, wanted in (((2, 5), (4, 35)), ((-5, -2), (-35, -4)), ((-5, 1), (-35, 7)), ((-1, 5), (-7, 35)),
                          ((0, 0), (0, 0))):
            self.assertEqual(product(x, (2, 7), 0), wanted)
            self.assertEqual(product(x, (16, 56), 3), wanted)
        self.assertEqual(product((-3, 3), (5, 5), 3), (-2, 2))


class Doubles(unittest.TestCase):
    def check(self, value, nearest, not_above, not_below, nearer_to_0):
        self.assertEqual([bits(value, mode) for mode in MODES], [nearest, not_above, not_below, nearer_to_0])
        self.assertEqual([bits(-value, mode) for mode in MODES],
                         [MINUS + nearest, MINUS + not_below, MINUS + not_above, MINUS + nearer_to_0])

    def test_the_least_doubles(self):
        self.check(LEAST, 1, 1, 1, 1)
        self.check(5 * LEAST, 5, 5, 5, 5)
        self.check(LEAST * (1 << 52), 1 << 52, 1 << 52, 1 << 52, 1 << 52)
        self.check(LEAST * ((1 << 52) - 1), (1 << 52) - 1, (1 << 52) - 1, (1 << 52) - 1, (1 << 52) - 1)
        self.check(LEAST * ((1 << 53) + 2), (2 << 52) + 1, (2 << 52) + 1, (2 << 52) + 1, (2 << 52) + 1)

    def test_between_the_least_doubles(self):
        self.check(LEAST * Fraction(3, 2), 2, 1, 2, 1)
        self.check(LEAST * Fraction(5, 2), 2, 2, 3, 2)
        self.check(LEAST * Fraction(4, 3), 1, 1, 2, 1)
        self.check(LEAST * Fraction(5, 3), 2, 1, 2, 1)
        self.check(LEAST * ((1 << 52) - Fraction(1, 2)), 1 << 52, (1 << 52) - 1, 1 << 52, (1 << 52) - 1)
        self.check(LEAST * ((1 << 53) + 1), 2 << 52, 2 << 52, (2 << 52) + 1, 2 << 52)
        self.check(LEAST * ((1 << 53) + 3), (2 << 52) + 2, (2 << 52) + 1, (2 << 52) + 2, (2 << 52) + 1)

    def test_rounded_to_0_of_its_sign(self):
        self.check(LEAST / 2, 0, 0, 1, 0)
        self.check(LEAST / 3, 0, 0, 1, 0)
        self.check(LEAST / (1 << 3000), 0, 0, 1, 0)
        self.check(LEAST * Fraction(2, 3), 1, 0, 1, 0)
        self.check(LEAST * (Fraction(1, 2) + Fraction(1, 1 << 3000)), 1, 0, 1, 0)

    def test_0(self):
        self.assertEqual([bits(Fraction(0), mode) for mode in MODES], [0, 0, 0, 0])
        self.assertEqual([double_bits((-3, 1), (7,), ((9,),), mode) for mode in MODES], [0, 0, 0, 0])

    def test_carried_to_the_next_exponent(self):
        one = 1023 << 52
        self.check(1 - Fraction(1, 1 << 54), one, one - 1, one, one - 1)
        self.check(1 - Fraction(1, 1 << 60), one, one - 1, one, one - 1)
        self.check(1 - Fraction(1, 1 << 53), one - 1, one - 1, one - 1, one - 1)

    def test_halfway(self):
        one = 1023 << 52
        self.check(1 + Fraction(1, 1 << 53), one, one, one + 1, one)
        self.check(1 + Fraction(3, 1 << 53), one + 2, one + 1, one + 2, one + 1)

    def near(self, value, steps, mode, sign):
        """The bits of a Fraction and a very small number, p - q times the root of 2."""
        p, q = near_root_of_2(steps)
        top = (value.numerator + sign * p * value.denominator, -sign * q * value.denominator)
        return double_bits(top, (value.denominator,), (ROOT_OF_2,), mode)

    def check_near(self, value, steps, above, below):
        self.assertEqual([self.near(value, steps, mode, 1) for mode in MODES], above)
        self.assertEqual([self.near(value, steps, mode, -1) for mode in MODES], below)

    def test_very_near_to_a_double_and_to_halfway(self):
        one = 1023 << 52
        for steps in (40, 400, 1500):
            self.check_near(Fraction(1), steps, [one, one, one + 1, one], [one, one - 1, one, one - 1])
            self.check_near(1 + Fraction(1, 1 << 53), steps, [one + 1, one, one + 1, one], [one, one, one + 1, one])
            self.check_near(1 + Fraction(3, 1 << 53), steps, [one + 2, one + 1, one + 2, one + 1],
                            [one + 1, one + 1, one + 2, one + 1])

    def test_very_near_to_0(self):
        self.check_near(Fraction(0), 1500, [0, 0, 1, 0], [MINUS, MINUS + 1, MINUS, MINUS])

    def test_a_divisor_very_near_to_0(self):
        # (p - q r) (p + q r) is 1, so 1 / (p - q r) is p + q r, a little less than 2 p, which is many units.
        for steps in (10, 100, 1500):
            p, q = near_root_of_2(steps)
            scale = 1 << (2 * p).bit_length()
            for mode in MODES:
                found = double_bits((1,), (scale * p, -scale * q), (ROOT_OF_2,), mode)
                self.assertEqual(found, double_bits((p, q), (scale,), (ROOT_OF_2,), mode))
                exact = double_bits((2 * p, -2 * q), (scale * p, -scale * q), (ROOT_OF_2,), mode)
                self.assertEqual(exact, double_bits((2,), (scale,), (), mode))

    def test_a_whole_number_of_units_at_the_end_of_what_is_known(self):
        # The divisor is 1 or 3, written with a whole root so many times that the trial bits end about one unit off,
        # or that the divisor may be 0 by what they tell.
        for exponent in list(range(100, 140)) + [1199, 1200, 1201]:
            large = 1 << exponent
            for whole, root in ((1, 3), (1, 5), (3, 7)):
                divisor = (large * root + whole, -large)
                for mode in MODES:
                    found = double_bits((5 * whole,), divisor, ((root * root,),), mode)
                    self.assertEqual(found, bits(Fraction(5), mode), (exponent, whole, root, mode))

    def test_a_whole_number_of_units_between_the_ends_of_what_is_known(self):
        # One root is known from below, one from above: the trial bits end some units off on both sides.
        for exponent in range(100, 140):
            large = 1 << exponent
            for mode in MODES:
                found = double_bits((5 + 2 * large, large, -large, 0), (1,), ((9,), (25,)), mode)
                self.assertEqual(found, bits(Fraction(5), mode), (exponent, mode))

    def test_less_than_a_unit_that_may_be_0_by_what_is_known(self):
        # It is 2^-1250 at most, far below the least double; the trial bits tell only that it has some units at most.
        p, q = near_root_of_2(275)
        for exponent in range(550, 620):
            for top, wanted in (((p, -q), [0, 0, 1, 0]), ((-p, q), [MINUS, MINUS + 1, MINUS, MINUS])):
                found = [double_bits(top, (1 << exponent,), (ROOT_OF_2,), mode) for mode in MODES]
                self.assertEqual(found, wanted, exponent)


if __name__ == "__main__":
    unittest.main()
