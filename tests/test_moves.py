"""shift, quarter and scale: the lines that come, the bounds, the refusals."""

import unittest

from tests.helper import BASE, HUGE, PRINT, QUARTER, ask, lines_text, printed, scale, shift, take

REST = ("rider D A B 1/2 -3", "crank E D 20", "dyad F E 30 B 40", "rider G F E -5/7 0")


def linkage(a, b, rest=REST):
    return lines_text("pin A " + a, "pin B " + b, *rest)


WHOLE = linkage("1 2", "-30 40")
EDGE = linkage("999 0", "0 -999", ("crank C A 7",))


class Moves(unittest.TestCase):
    def check_refused(self, answer, text, call):
        codes = list(text.encode("ascii"))
        self.assertEqual(ask(take(text), call, PRINT)[1:], [[answer], [len(codes), len(codes)] + codes], call)

    def test_shift_moves_pins_alone(self):
        self.assertEqual(ask(take(WHOLE), shift(10, -20)), [[6], [6]])
        self.assertEqual(printed(take(WHOLE), shift(10, -20)), linkage("11 -18", "-20 20"))
        self.assertEqual(printed(take(WHOLE), shift(0, 0)), WHOLE)
        self.assertEqual(printed(take(WHOLE), shift(-1, -2)), linkage("0 0", "-31 38"))

    def test_shift_and_back(self):
        self.assertEqual(printed(take(WHOLE), shift(500, -900), shift(-500, 900)), WHOLE)

    def test_shift_to_the_bounds(self):
        self.assertEqual(printed(take(WHOLE), shift(998, 959)), linkage("999 961", "968 999"))
        self.assertEqual(printed(take(WHOLE), shift(-969, -1001)), linkage("-968 -999", "-999 -961"))
        for dx, dy in ((999, 0), (-970, 0), (0, 960), (0, -1002), (2000, 0), (-2000, 0), (0, 2000), (0, -2000)):
            self.check_refused(-3, WHOLE, shift(dx, dy))

    def test_shift_across_all(self):
        text = "pin A -999 999\ncrank B A 1\n"
        self.assertEqual(printed(take(text), shift(1998, -1998)), "pin A 999 -999\ncrank B A 1\n")
        self.check_refused(-3, text, shift(1999, 0))
        self.check_refused(-3, text, shift(0, -1999))

    def test_shift_wrong_numbers(self):
        for far in (2001, -2001, HUGE, -HUGE):
            self.check_refused(-1, WHOLE, shift(far, 0))
            self.check_refused(-1, WHOLE, shift(0, far))
        self.check_refused(-1, WHOLE, shift(2000, 2001))

    def test_quarter(self):
        self.assertEqual(ask(take(WHOLE), QUARTER), [[6], [6]])
        self.assertEqual(printed(take(WHOLE), QUARTER), linkage("-2 1", "-40 -30"))
        self.assertEqual(printed(take(WHOLE), QUARTER, QUARTER), linkage("-1 -2", "30 -40"))
        self.assertEqual(printed(take(WHOLE), QUARTER, QUARTER, QUARTER, QUARTER), WHOLE)

    def test_quarter_at_the_bounds_and_at_0(self):
        self.assertEqual(printed(take(EDGE), QUARTER), linkage("0 999", "999 0", ("crank C A 7",)))
        self.assertEqual(printed(take("pin A 0 0\ncrank B A 1\n"), QUARTER), "pin A 0 0\ncrank B A 1\n")

    def test_scale_enlarges_places_and_lengths_and_no_rider(self):
        self.assertEqual(ask(take(WHOLE), scale(3)), [[6], [6]])
        self.assertEqual(printed(take(WHOLE), scale(3)), linkage("3 6", "-90 120", (
            "rider D A B 1/2 -3", "crank E D 60", "dyad F E 90 B 120", "rider G F E -5/7 0")))
        self.assertEqual(printed(take(WHOLE), scale(1)), WHOLE)

    def test_scale_to_the_bounds(self):
        self.assertEqual(printed(take("pin A 1 -1\ncrank B A 1\n"), scale(999)), "pin A 999 -999\ncrank B A 999\n")
        for text in ("pin A 334 0\ncrank B A 1\n", "pin A 0 -334\ncrank B A 1\n", "pin A 0 0\ncrank B A 334\n",
                     BASE + "dyad D C 334 B 1\n", BASE + "dyad D C 1 B 334\n"):
            self.check_refused(-3, text, scale(3))
            self.assertEqual(ask(take(text.replace("334", "333")), scale(3))[1], [text.count("\n")])

    def test_scale_leaves_a_riders_bounds_alone(self):
        text = BASE + "rider D A B 999 -999\n"
        self.assertEqual(printed(take(text), scale(10)), "pin A 0 0\npin B 50 0\ncrank C A 20\nrider D A B 999 -999\n")

    def test_scale_wrong_numbers(self):
        for f in (0, 1000, HUGE):
            self.check_refused(-1, WHOLE, scale(f))
        self.check_refused(-3, WHOLE, scale(999))

    def test_no_linkage(self):
        for call in (shift(1, 1), shift(HUGE, -HUGE), QUARTER, scale(1), scale(0)):
            self.assertEqual(ask(call, PRINT), [[-9], [-9]])


if __name__ == "__main__":
    unittest.main()
