"""figures: which sides are told, where circles meet, touch and miss, and the refusals."""

import unittest

from tests.helper import (BASE, HUGE, Refusals, ask, copier, figure, figures, inversor, lines_text, point, printed,
                          straight, take, told)

# The crank's pin is at (2, 0) at the place (0, 1), at (0, 2) at (1, 1), at (-2, 0) at (1, 0); B at (5, 0).
NEAR_B, ASIDE, FAR_FROM_B = (0, 1), (1, 1), (1, 0)
PLACES = [(0, 1), (1, 0), (1, 1), (-1, 1), (1, 3), (-2, 5), (7, -4), (-3, -1), (99, 98), (0, -7), (-99, 99)]
LINKAGES = [
    BASE + "dyad D C 6 B 5\ndyad E C 4 D 5\n",
    BASE + "dyad D C 6 B 5\ndyad E A 4 B 4\ndyad F D 5 E 4\n",
    BASE + "dyad D C 6 B 5\ndyad E D 7 A 6\ndyad F E 3 D 5\n",
    BASE + "dyad D C 5 B 5\nrider E D C 1/2 1/3\ndyad F E 3 A 2\nrider G F A -1 1/2\ndyad H G 3 E 5\n",
    BASE + "dyad D A 3 B 4\ndyad E D 2 C 3\ndyad F D 5 E 3\n",
    BASE + "pin D 2 0\ndyad E C 4 D 4\ndyad F C 7 B 5\n",
    "pin A 3 -1\npin B -4 5\nrider C A B 1/2 -1/3\ncrank D C 4\nrider E D C 2 1\ndyad F E 9 A 7\ndyad G F 6 D 9\n",
    "pin A 1 1\npin B 8 1\ndyad C A 5 B 4\ncrank D B 2\ndyad E C 3 D 4\nrider F E C 1/2 1/2\ndyad G F 3 B 4\n",
]


def with_dyad(p, q):
    return take(BASE + f"dyad D C {p} B {q}\n")


class Figures(Refusals):
    def test_no_dyad(self):
        for a, b in PLACES:
            self.assertEqual(ask(take(BASE), figures(a, b)), [[3], [1, 1, 0]])
            self.assertEqual(ask(take("pin A 0 0\ncrank B A 1\n"), figures(a, b)), [[2], [1, 1, 0]])

    def test_how_many_stands_there_twice(self):
        self.assertEqual(ask(with_dyad(2, 2), figures(0, 1))[1], [2, 2, 0, 1])
        self.assertEqual(ask(with_dyad(2, 2), figures(1, 0))[1], [0, 0])

    def check_dyad(self, p, q, place, sides):
        self.assertEqual(told(place[0], place[1], with_dyad(p, q)), sides, (p, q, place))

    def test_circles_that_meet(self):
        for p, q in ((2, 2), (3, 1), (1, 3), (5, 3), (999, 998), (998, 999)):
            self.check_dyad(p, q, NEAR_B, [0, 1])
        for p, q in ((4, 4), (1, 7), (7, 1), (10, 4)):
            self.check_dyad(p, q, FAR_FROM_B, [0, 1])
        for p, q in ((1, 5), (5, 1), (3, 3), (10, 5), (5, 10)):
            self.check_dyad(p, q, ASIDE, [0, 1])

    def test_circles_that_touch_from_outside(self):
        for p, q in ((1, 2), (2, 1)):
            self.check_dyad(p, q, NEAR_B, [0])
        for p, q in ((1, 6), (6, 1), (3, 4)):
            self.check_dyad(p, q, FAR_FROM_B, [0])

    def test_circles_that_touch_from_inside(self):
        for p, q in ((5, 2), (2, 5), (999, 996), (1, 4)):
            self.check_dyad(p, q, NEAR_B, [0])
        for p, q in ((9, 2), (992, 999)):
            self.check_dyad(p, q, FAR_FROM_B, [0])

    def test_circles_that_miss(self):
        for p, q in ((1, 1), (6, 2), (2, 6), (1, 999), (999, 1)):
            self.check_dyad(p, q, NEAR_B, [])
        for p, q in ((3, 3), (2, 4), (10, 2), (2, 10)):
            self.check_dyad(p, q, FAR_FROM_B, [])
        # The root of 29 is between 5 and 6.
        for p, q in ((2, 3), (4, 1), (7, 1), (1, 7)):
            self.check_dyad(p, q, ASIDE, [])

    def test_touching_at_a_place_with_a_fraction(self):
        # At (1, 2) the crank's pin is at (3, 4), at (2, 1) at (-3, 4).
        text = "pin A 0 0\npin B 3 0\npin C -3 0\ncrank D A 5\n"
        for line, places in (("dyad E D 3 B 1\n", [(1, 2), (-1, -2), (-1, 2), (1, -2)]),
                             ("dyad E C 3 D 7\n", [(2, 1), (-2, -1), (2, -1), (-2, 1)])):
            for place in places:
                self.assertEqual(told(place[0], place[1], take(text + line)), [0])

    def test_signs_of_a_place(self):
        # Only if the pin stands above does the dyad reach it.
        above = take("pin A 0 0\npin B 1 9\ncrank C A 5\ndyad D C 3 B 3\n")
        for a, b in ((1, 1), (-1, -1), (99, 99), (2, 3), (-2, -3)):
            self.assertEqual(told(a, b, above), [0, 1])
        for a, b in ((-1, 1), (1, -1), (-99, 99), (2, -3), (-2, 3), (0, 1), (1, 0), (0, -5), (-5, 0)):
            self.assertEqual(told(a, b, above), [])

    def test_only_the_turn_counts(self):
        for text in LINKAGES:
            for a, b in ((1, 2), (3, -7), (0, 1), (1, 0)):
                self.assertEqual(told(a, b, take(text)), told(-13 * a, -13 * b, take(text)))

    def test_p_and_q_at_one_point(self):
        text = BASE + "pin D 2 0\n"
        for p, q in ((4, 4), (1, 1), (4, 5), (5, 4), (999, 999)):
            self.assertEqual(told(0, 1, take(text + f"dyad E C {p} D {q}\n")), [])
        self.assertEqual(told(1, 0, take(text + "dyad E C 2 D 2\n")), [0])
        self.assertEqual(told(1, 1, take(text + "dyad E C 4 D 4\n")), [0, 1])

    def test_riders_at_one_point(self):
        text = BASE + "rider D A B 1/5 1/2\nrider E A C 1/2 5/4\n"
        self.assertEqual(told(0, 1, take(text + "dyad F D 4 E 4\n")), [])
        self.assertEqual(told(1, 3, take(text + "dyad F D 4 E 4\n")), [0, 1])

    def test_dyads_at_one_point_with_roots(self):
        base = BASE + "dyad D C 5 B 5\ndyad E C 5 B 5\n"
        self.assertEqual(told(1, 1, take(base + "dyad F D 7 E 7\n")), [1, 2, 5, 6])
        self.assertEqual(told(1, 1, take(base + "dyad F E 7 D 6\n")), [1, 2, 5, 6])

    def test_some_sides_alone(self):
        # D is at (5, 4), on the left of the way from C to B, or at (5, -4); X is 5 from one, 13 from the other.
        base = "pin A 0 0\npin B 8 0\ncrank C A 2\ndyad D C 5 B 5\n"
        self.assertEqual(told(0, 1, take(base + "pin X 5 9\ndyad E D 3 X 3\n")), [0, 2])
        self.assertEqual(told(0, 1, take(base + "pin X 5 -9\ndyad E D 3 X 3\n")), [1, 3])
        self.assertEqual(told(0, 1, take(base + "pin X 5 9\ndyad E D 3 X 2\n")), [0])
        self.assertEqual(told(0, 1, take(base + "pin X 5 -9\ndyad E D 2 X 3\n")), [1])
        self.assertEqual(told(0, 1, take(base + "pin X 5 -9\ndyad E A 6 B 6\ndyad F D 3 X 3\n")), [1, 3, 5, 7])

    def test_touching_on_some_sides_alone(self):
        # D is at (5, 4) or (5, -4): 3 from (5, 1), which E's circles touch, and 5 from there, where they meet.
        base = "pin A 0 0\npin B 8 0\ncrank C A 2\npin X 5 1\ndyad D C 5 B 5\ndyad E D 2 X 5\n"
        self.assertEqual(told(0, 1, take(base)), [0, 1, 3])
        self.assertEqual(told(0, 1, take(base + "dyad F A 8 B 8\n")), [0, 1, 3, 4, 5, 7])
        self.assertEqual(told(0, 1, take(base + "dyad F A 4 B 4\n")), [0, 1, 3])

    def test_as_many_digits_tell(self):
        for text in LINKAGES:
            dyads = text.count("dyad")
            seen = 0
            for a, b in PLACES:
                found = [figure(text, a, b, sides) for sides in range(1 << dyads)]
                wanted = [sides for sides, one in enumerate(found) if one is not None and one[1]]
                self.assertEqual(told(a, b, take(text)), wanted, (text, a, b))
                seen += len(wanted)
            self.assertGreater(seen, 0, text)

    def test_wrong_places(self):
        for a, b in ((0, 0), (100, 1), (-100, 1), (1, 100), (1, -100), (HUGE, 0), (-HUGE, 0), (0, HUGE), (0, -HUGE)):
            self.check(-1, take(BASE), figures(a, b))
        for a, b in ((99, 0), (-99, 0), (0, 99), (0, -99), (99, -99)):
            self.assertEqual(told(a, b, take(BASE)), [0])

    def test_order_of_refusals(self):
        self.check(-9, figures(0, 0))
        self.check(-9, figures(0, 1))

    def test_the_linkage_stays(self):
        text = LINKAGES[3]
        self.assertEqual(printed(take(text), figures(1, 2), figures(0, 0), point(1, 2, 0, 0, 0)), text)


class Borders(unittest.TestCase):
    """Circles that touch just so though the points hold roots: what's rounded on the way would miss or meet."""

    def copied(self, n, d, length, other):
        """A copier of the crank: in its figures D3 is 2 n / d from A."""
        return printed(take(BASE), copier(0, 2, n, d, length, other, 3))

    def test_a_copy_that_touches(self):
        for n, d, length, other, p, q in ((2, 1, 5, 6, 3, 1), (2, 1, 5, 6, 7, 3), (-3, 1, 7, 7, 5, 1),
                                          (7, 2, 6, 7, 3, 4), (9, 2, 4, 5, 20, 11), (1, 2, 8, 9, 8, 7)):
            text = self.copied(n, d, length, other) + f"dyad E D3 {p} A {q}\n"
            copying = (1, 2) if n > d else (0, 3)
            for a, b in PLACES:
                sides = told(a, b, take(text))
                self.assertEqual([one for one in sides if one % 4 in copying], list(copying), (text, a, b))

    def test_a_copy_that_meets_or_misses(self):
        text = self.copied(2, 1, 5, 6)
        for a, b in PLACES:
            meets = told(a, b, take(text + "dyad E D3 3 A 2\n"))
            self.assertEqual([one for one in meets if one % 4 in (1, 2)], [1, 2, 5, 6])
            misses = told(a, b, take(text + "dyad E D3 2 A 1\n"))
            self.assertEqual([one for one in misses if one % 4 in (1, 2)], [])

    def test_a_copy_at_a_pin(self):
        # D3 is at (4, 0), where X is.
        text = self.copied(2, 1, 5, 6) + "pin X 4 0\n"
        sides = told(0, 1, take(text + "dyad E D3 3 X 3\n"))
        self.assertEqual([one for one in sides if one % 4 in (1, 2)], [])
        sides = told(0, 1, take(text + "rider Y A X 3/4 0\ndyad E D3 2 Y 3\n"))
        self.assertEqual([one for one in sides if one % 4 in (1, 2)], [1, 2])

    def test_a_very_near_miss(self):
        # D3 is 50 to the right of A and 1 / 380 above it: so it is 50 and less than 0.0000001 from A.
        base = lines_text("pin A 0 0", "pin B 1 0", "rider X A B 950 1/20", "crank C A 1")
        text = printed(take(base), copier(0, 2, 1, 19, 475, 500, 3))
        for p, q, wanted in ((30, 20, []), (49, 1, []), (30, 21, [0, 3, 4, 7]), (51, 1, [0, 3, 4, 7]), (52, 1, [])):
            sides = told(1, 2, take(text + f"dyad E D3 {p} A {q}\n"))
            self.assertEqual([one for one in sides if one % 4 in (0, 3)], wanted, (p, q))
        # Along the ground it is 50 from A.
        flat = text.replace("950 1/20", "950 0")
        for p, q in ((30, 20), (49, 1), (51, 1)):
            sides = told(1, 2, take(flat + f"dyad E D3 {p} A {q}\n"))
            self.assertEqual([one for one in sides if one % 4 in (0, 3)], [0, 3], (p, q))

    def test_an_inversor(self):
        # Where N and N1 are at one point N2's circles are one: that's no figure.
        for a, b in PLACES:
            self.assertEqual(told(a, b, take(BASE), inversor(1, 2, 9, 8, 3)), [1, 2, 5, 6])
            self.assertEqual(told(a, b, straight(3, 20, 19)), [1, 2, 5, 6] if b != 0 else [])

    def test_an_inversor_whose_circles_touch(self):
        # B is 3 from C at (0, 1), 7 at (1, 0): N and N1 touch there, and are at one point.
        self.assertEqual(told(0, 1, take(BASE), inversor(1, 2, 2, 1, 3)), [])
        self.assertEqual(told(1, 0, take(BASE), inversor(1, 2, 10, 3, 3)), [])


if __name__ == "__main__":
    unittest.main()
