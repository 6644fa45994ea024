"""point: where each kind of line's point stands, to the last bit in each mode, and the refusals."""

import unittest
from fractions import Fraction

from tests.helper import (BASE, HUGE, MODES, Refusals, ask, bits_of, figure, inversor, lines_text, point, rounded,
                          stands, straight, take)
from tests.test_figures import LINKAGES, PLACES

ONE_THIRD_BELOW, ONE_THIRD_ABOVE = 0x3FD5555555555555, 0x3FD5555555555556
ONE_FIFTH_BELOW, ONE_FIFTH_ABOVE = 0x3FC9999999999999, 0x3FC999999999999A
MINUS = 1 << 63


def fan(q):
    """Three bars of 512 about A, each one turned on from the one before by an angle whose cosine is 1 - q q / 2^19."""
    return take(lines_text("pin A 0 0", "crank B A 512", f"dyad C A 512 B {q}", f"dyad D A 512 C {q}",
                           f"dyad E A 512 D {q}"))


def turned_on(q, times):
    """512 times the cosine of so many times the fan's angle."""
    cosine = 1 - Fraction(q * q, 1 << 19)
    before, now = cosine, Fraction(1)
    for _ in range(times):
        before, now = now, 2 * cosine * now - before
    return 512 * now


class Stands(unittest.TestCase):
    def check(self, x, y, place, sides, i, *calls):
        """x and y are Fractions or decimals: all modes answer what they're rounded to."""
        for mode in MODES:
            found = stands(place[0], place[1], sides, i, mode, *calls)
            self.assertEqual(found, [rounded(x, mode), rounded(y, mode)], (calls, place, sides, i, mode))

    def check_x(self, x, place, sides, i, *calls):
        for mode in MODES:
            found = stands(place[0], place[1], sides, i, mode, *calls)
            self.assertEqual(found[0], rounded(x, mode), (calls, place, sides, i, mode))


class Points(Stands):
    def test_the_answer(self):
        text = "pin A -1 2\ncrank B A 1\n"
        self.assertEqual(ask(take(text), point(0, 1, 0, 0, 0))[1],
                         [0, 2, 13830554455654793216, 4611686018427387904])
        self.assertEqual(ask(take(text), point(0, 1, 0, 1, 0))[1], [0, 2, 0, 4611686018427387904])

    def test_pins(self):
        text = "pin A 0 0\npin B 999 -999\npin C -1 7\ncrank D A 1\n"
        for i, x, y in ((0, 0, 0), (1, 999, -999), (2, -1, 7)):
            self.check(Fraction(x), Fraction(y), (3, 5), 0, i, take(text))

    def test_crank(self):
        text = "pin A -4 3\ncrank B A 7\n"
        for a, b in PLACES + [(99, -1), (1, 99), (-50, 99), (2, 4)]:
            size = a * a + b * b
            self.check(-4 + Fraction(7 * (b * b - a * a), size), 3 + Fraction(14 * a * b, size), (a, b), 0, 1,
                       take(text))

    def test_crank_goes_round_to_the_left(self):
        for place, x, y in (((0, 1), 5, 0), ((1, 2), 3, 4), ((1, 1), 0, 5), ((2, 1), -3, 4), ((1, 0), -5, 0),
                            ((-2, 1), -3, -4), ((-1, 1), 0, -5), ((1, -2), 3, -4), ((0, -9), 5, 0), ((-9, 0), -5, 0),
                            ((-1, -1), 0, 5), ((-1, -2), 3, 4)):
            self.check(Fraction(x), Fraction(y), place, 0, 1, take("pin A 0 0\ncrank B A 5\n"))

    def test_riders(self):
        # The way from A to B is (3, 4), to its left (-4, 3).
        base = "pin A 10 20\npin B 13 24\ncrank C B 1\n"
        for u, v in ((Fraction(0), Fraction(0)), (Fraction(1), Fraction(0)), (Fraction(0), Fraction(1)),
                     (Fraction(-999), Fraction(999)), (Fraction(1, 3), Fraction(-7, 20)), (Fraction(-5, 7), Fraction(2)),
                     (Fraction(-998, 19), Fraction(-997, 18))):
            self.check(10 + 3 * u - 4 * v, 20 + 4 * u + 3 * v, (1, 5), 0, 3, take(base + f"rider D A B {u} {v}\n"))
            self.check(13 - 3 * u + 4 * v, 24 - 4 * u - 3 * v, (1, 5), 0, 3, take(base + f"rider D B A {u} {v}\n"))

    def test_rider_of_the_crank_about_a_rider(self):
        text = "pin A 0 0\npin B 9 0\nrider C A B 1/3 2/3\ncrank D C 5\nrider E C D 1/5 2/5\nrider F D C 1 1\n"
        # C at (3, 6), the way from C to D at (1, 2): (3, 4).
        self.check(Fraction(3), Fraction(6), (1, 2), 0, 2, take(text))
        self.check(Fraction(6), Fraction(10), (1, 2), 0, 3, take(text))
        self.check(3 + Fraction(3, 5) - Fraction(8, 5), 6 + Fraction(4, 5) + Fraction(6, 5), (1, 2), 0, 4, take(text))
        self.check(Fraction(7), Fraction(3), (1, 2), 0, 5, take(text))

    def test_dyads_left_and_right(self):
        # 13, 14 and 15: the foot is 5 from A, the height 12.
        for line, left in (("dyad D A 13 B 15\n", 12), ("dyad D B 15 A 13\n", -12)):
            text = "pin A 1 2\npin B 15 2\ncrank C A 1\n" + line
            self.check(Fraction(6), Fraction(2 + left), (1, 3), 0, 3, take(text))
            self.check(Fraction(6), Fraction(2 - left), (1, 3), 1, 3, take(text))

    def test_dyad_that_touches_whatever_its_bit(self):
        for p, q, x in ((1, 2, 3), (2, 1, 4), (5, 2, 7), (2, 5, 0)):
            text = BASE + f"dyad D C {p} B {q}\n"
            for sides in (0, 1):
                self.check(Fraction(x), Fraction(0), (0, 1), sides, 3, take(text))

    def test_dyad_on_one_that_touches(self):
        # D at (3, 0), E at (3, 4) or (3, -4) whatever D's bit is.
        text = BASE + "pin X 6 0\ndyad D C 1 B 2\ndyad E D 4 X 5\n"
        for sides, y in ((0, 4), (1, 4), (2, -4), (3, -4)):
            self.check(Fraction(3), Fraction(y), (0, 1), sides, 5, take(text))

    def test_later_dyads_change_nothing(self):
        text = LINKAGES[2]
        for mode in MODES:
            for i in range(5):
                self.assertEqual(stands(1, 3, 1, i, mode, take(text)), stands(1, 3, 5, i, mode, take(text)))

    def test_only_the_turn_counts(self):
        for i in range(6):
            self.assertEqual(stands(2, 3, 1, i, 0, take(LINKAGES[2])), stands(-62, -93, 1, i, 0, take(LINKAGES[2])))


class Modes(Stands):
    def check_bits(self, u, v, *bits):
        text = f"pin A 0 0\npin B 1 0\ncrank C A 1\nrider D A B {u} {v}\n"
        found = [stands(1, 1, 0, 3, mode, take(text)) for mode in MODES]
        self.assertEqual([x for x, y in found], list(bits[:4]))
        self.assertEqual([y for x, y in found], list(bits[4:]))

    def test_thirds(self):
        low, high = ONE_THIRD_BELOW, ONE_THIRD_ABOVE
        self.check_bits("1/3", "-1/3", low, low, high, low, MINUS + low, MINUS + high, MINUS + low, MINUS + low)

    def test_fifths(self):
        low, high = ONE_FIFTH_BELOW, ONE_FIFTH_ABOVE
        self.check_bits("-1/5", "1/5", MINUS + high, MINUS + high, MINUS + low, MINUS + low, high, low, high, low)

    def test_doubles_themselves(self):
        one, half = bits_of(-1.0), bits_of(0.0625)
        self.check_bits("-1", "1/16", one, one, one, one, half, half, half, half)

    def test_zero(self):
        self.check_bits("0", "0", 0, 0, 0, 0, 0, 0, 0, 0)

    def test_halfway_with_roots_on_the_way(self):
        ties = {0: 0, 1: 0}
        for q in range(1, 700, 2):
            x = turned_on(q, 3)
            if x.denominator == 1 << 46 and abs(x.numerator).bit_length() == 54 and q % 7 == 0:
                ties[abs(x.numerator) >> 1 & 1] += 1
                self.check_x(x, (0, 1), 0, 4, fan(q))
                self.check_x(x, (0, -1), 7, 4, fan(q))
                self.check_x(-x, (1, 0), 0, 4, fan(q))
                self.check_x(-x, (-1, 0), 7, 4, fan(q))
        self.assertTrue(ties[0] > 2 and ties[1] > 2, ties)

    def test_halfway_of_y(self):
        q = 511
        x = turned_on(q, 3)
        self.assertEqual(x.denominator, 1 << 46)
        for mode in MODES:
            self.assertEqual(stands(1, 1, 0, 4, mode, fan(q))[1], rounded(x, mode))
            self.assertEqual(stands(-1, 1, 0, 4, mode, fan(q))[1], rounded(-x, mode))

    def test_exactly_a_double_with_roots_on_the_way(self):
        for q in (1, 2, 100, 256, 511, 700):
            for sides, times in ((1, 1), (2, 1), (4, 1), (3, 1), (5, 1), (6, 1)):
                self.check_x(turned_on(q, times), (0, 1), sides, 4, fan(q))
            for sides, times in ((0, 2), (3, 2)):
                self.check_x(turned_on(q, times), (0, 1), sides, 3, fan(q))

    def test_more_bits_than_a_double_has_with_roots_on_the_way(self):
        for q in (1, 3, 5, 99, 511, 513, 601, 801):
            self.assertGreater(abs(turned_on(q, 3).numerator).bit_length(), 53)
            for sides in (0, 7):
                self.check_x(turned_on(q, 3), (0, 1), sides, 4, fan(q))

    def test_zero_with_roots_on_the_way(self):
        for q in (1, 300, 511, 900):
            for sides in (1, 2):
                # D is back at the crank's pin: at (512, 0), (0, 512), (-512, 0), (0, -512).
                for place, x, y in (((0, 1), 512, 0), ((1, 1), 0, 512), ((1, 0), -512, 0), ((-1, 1), 0, -512)):
                    self.check(Fraction(x), Fraction(y), place, sides, 3, fan(q))
        for place, x, y in (((0, 1), -512, 0), ((1, 1), 0, -512), ((1, 0), 512, 0), ((1, -1), 0, 512)):
            # Three times 60 degrees.
            for sides in (0, 7):
                self.check(Fraction(x), Fraction(y), place, sides, 4, fan(512))

    def test_zero_is_never_below_0(self):
        for sides in (0, 7):
            for mode in MODES:
                self.assertEqual(stands(0, 1, sides, 4, mode, fan(512)), [bits_of(-512.0), 0])
                self.assertEqual(stands(1, 1, sides, 4, mode, fan(512)), [0, bits_of(-512.0)])

    def test_one_root(self):
        text = "pin A 0 0\npin B 2 0\ncrank C A 1\ndyad D A 2 B 2\n"
        below, above = 0x3FFBB67AE8584CAA, 0x3FFBB67AE8584CAB
        one = bits_of(1.0)
        for mode, left, right in ((0, below, below), (1, below, above), (2, above, below), (3, below, below)):
            self.assertEqual(stands(1, 1, 0, 3, mode, take(text)), [one, left])
            self.assertEqual(stands(1, 1, 1, 3, mode, take(text)), [one, MINUS + right])

    def test_as_many_digits_tell(self):
        for text in LINKAGES:
            for a, b in PLACES:
                for sides in range(1 << text.count("dyad")):
                    self.check_figure(text, a, b, sides)

    def check_figure(self, text, a, b, sides):
        found = figure(text, a, b, sides)
        last = text.count("\n") - 1
        if found is None:
            self.assertEqual(stands(a, b, sides, last, 0, take(text)), -3)
            return
        for i in range(3, last + 1):
            mode = (i + a + b + sides) % 4
            wanted = [rounded(found[0][i][0], mode), rounded(found[0][i][1], mode)]
            self.assertEqual(stands(a, b, sides, i, mode, take(text)), wanted, (text, a, b, sides, i, mode))

    def test_three_roots_in_every_mode(self):
        text = LINKAGES[3]
        for a, b in PLACES:
            for sides in range(8):
                found = figure(text, a, b, sides)
                if found is not None:
                    self.check(found[0][7][0], found[0][7][1], (a, b), sides, 7, take(text))


class Refused(Refusals):
    def test_sides_that_do_not_close(self):
        text = take(BASE + "dyad D C 2 B 2\n")
        for i in range(4):
            for sides in (0, 1):
                self.check(-3, text, point(1, 0, sides, i, 0))
                self.assertEqual(len(ask(text, point(0, 1, sides, i, 0))[1]), 4)

    def test_one_point(self):
        self.check(-3, take(BASE + "pin D 2 0\ndyad E C 4 D 4\n"), point(0, 1, 0, 0, 0))
        self.check(-3, take(BASE), inversor(1, 2, 9, 8, 3), point(0, 1, 0, 5, 0))
        self.check(-3, take(BASE), inversor(1, 2, 9, 8, 3), point(0, 1, 7, 5, 0))

    def test_a_bit_above_the_dyads(self):
        for sides in (1, 2, 8, HUGE):
            self.check(-3, take(BASE), point(0, 1, sides, 0, 0))
        for sides in (2, 3, 4, 1 << 62, HUGE):
            self.check(-3, take(BASE + "dyad D C 2 B 2\n"), point(0, 1, sides, 0, 0))
        for sides in (8, 9, 16, HUGE):
            self.check(-3, straight(3, 20, 19), point(0, 1, sides, 0, 0))
        self.assertEqual(len(ask(straight(3, 20, 19), point(0, 1, 6, 0, 0))[1]), 4)

    def test_no_such_line(self):
        for i in (3, 4, 24, HUGE):
            self.check(-4, take(BASE), point(0, 1, 0, i, 0))

    def test_wrong_numbers(self):
        for a, b in ((0, 0), (100, 0), (-100, 0), (0, 100), (0, -100), (HUGE, 1), (1, -HUGE)):
            self.check(-1, take(BASE), point(a, b, 0, 0, 0))
        for mode in (4, 5, HUGE):
            self.check(-1, take(BASE), point(0, 1, 0, 0, mode))

    def test_order_of_refusals(self):
        self.check(-9, point(0, 0, 0, 0, 0))
        self.check(-9, point(0, 1, HUGE, HUGE, HUGE))
        self.check(-1, take(BASE), point(0, 0, 1, 3, 0))
        self.check(-1, take(BASE), point(0, 1, 1, 3, 4))
        self.check(-4, take(BASE), point(0, 1, 1, 3, 3))
        self.check(-3, take(BASE), point(0, 1, 1, 2, 3))


if __name__ == "__main__":
    unittest.main()
