"""copier and inversor: the lines put in, and each refusal in its order."""

import unittest

from tests.helper import BASE, HUGE, Refusals, ask, copier, inversor, lines_text, printed, take

D, E = 3, 4


def pins(how_many):
    return lines_text(*[f"pin Q{k} {k} 1" for k in range(1, how_many + 1)])


class Copier(Refusals):
    def check_lines(self, call, *lines):
        self.assertEqual(ask(take(BASE), call), [[3], [7]])
        self.assertEqual(printed(take(BASE), call), BASE + lines_text(*lines))

    def test_factor_below_0(self):
        self.check_lines(copier(1, 2, -3, 4, 40, 7, D), "dyad D B 40 C 7", "rider D1 B D -3/4 0",
                         "dyad D2 C 70 D1 7", "rider D3 D1 D2 -3/4 0")

    def test_factor_between_0_and_1(self):
        self.check_lines(copier(0, 2, 2, 5, 10, 11, D), "dyad D A 10 C 11", "rider D1 A D 2/5 0",
                         "dyad D2 C 6 D1 11", "rider D3 D1 D2 2/5 0")

    def test_factor_above_1(self):
        self.check_lines(copier(1, 2, 7, 3, 9, 999, 25), "dyad Z B 9 C 999", "rider Z1 B Z 7/3 0",
                         "dyad Z2 C 12 Z1 999", "rider Z3 Z1 Z2 7/3 0")

    def test_whole_factors(self):
        self.check_lines(copier(1, 2, 3, 1, 20, 8, D), "dyad D B 20 C 8", "rider D1 B D 3 0",
                         "dyad D2 C 40 D1 8", "rider D3 D1 D2 3 0")
        self.check_lines(copier(1, 2, -1, 1, 20, 8, D), "dyad D B 20 C 8", "rider D1 B D -1 0",
                         "dyad D2 C 40 D1 8", "rider D3 D1 D2 -1 0")

    def test_o_behind_p(self):
        self.check_lines(copier(2, 0, 1, 2, 2, 1, D), "dyad D C 2 A 1", "rider D1 C D 1/2 0",
                         "dyad D2 A 1 D1 1", "rider D3 D1 D2 1/2 0")

    def test_bounds_of_the_numbers(self):
        for n, d, length, other in ((99, 1, 10, 1), (-99, 1, 9, 999), (99, 20, 20, 1), (-99, 20, 160, 1),
                                    (1, 20, 980, 1), (2, 1, 999, 999)):
            self.assertEqual(ask(take(BASE), copier(0, 2, n, d, length, other, 25)), [[3], [7]], (n, d))

    def test_two_copiers_are_too_many_dyads(self):
        text = BASE + "dyad D C 3 B 4\n"
        self.assertEqual(ask(take(text), copier(0, 3, 2, 1, 5, 5, E)), [[4], [8]])
        self.check(-3, take(text), copier(0, 3, 2, 1, 5, 5, E), copier(0, 2, 2, 1, 5, 5, 5))
        self.check(-3, take(BASE + "dyad D C 3 B 4\ndyad E C 3 B 4\n"), copier(0, 2, 2, 1, 5, 5, 5))

    def test_no_linkage(self):
        self.check(-9, copier(0, 2, 2, 1, 5, 5, D))
        self.check(-9, copier(HUGE, HUGE, HUGE, 0, 0, 0, HUGE))

    def test_wrong_numbers(self):
        for call in (copier(0, 2, 2, 1, 5, 5, 26), copier(0, 2, 2, 1, 5, 5, HUGE),
                     copier(0, 2, 2, 1, 0, 5, D), copier(0, 2, 2, 1, 1000, 5, D),
                     copier(0, 2, 2, 1, 5, 0, D), copier(0, 2, 2, 1, 5, 1000, D), copier(0, 2, 2, 1, 5, HUGE, D),
                     copier(0, 2, 0, 1, 5, 5, D), copier(0, 2, 1, 1, 5, 5, D), copier(0, 2, 0, 5, 5, 5, D),
                     copier(0, 2, 100, 1, 1, 5, D), copier(0, 2, -100, 1, 1, 5, D),
                     copier(0, 2, HUGE, 1, 1, 5, D), copier(0, 2, -HUGE, 1, 1, 5, D),
                     copier(0, 2, 1, 0, 5, 5, D), copier(0, 2, 1, 21, 21, 5, D), copier(0, 2, 1, HUGE, 5, 5, D),
                     copier(0, 2, 2, 4, 4, 5, D), copier(0, 2, -6, 9, 9, 5, D), copier(0, 2, 5, 5, 5, 5, D),
                     copier(0, 2, 1, 2, 5, 5, D), copier(0, 2, 3, 20, 30, 5, D)):
            self.check(-1, take(BASE), call)

    def test_no_such_lines(self):
        for o, p in ((3, 2), (0, 3), (0, HUGE), (HUGE, 0), (3, 3), (0, 0), (2, 2), (HUGE, HUGE)):
            self.check(-4, take(BASE), copier(o, p, 2, 1, 5, 5, D))

    def test_names_taken(self):
        for letter in (0, 1, 2):
            self.check(-5, take(BASE), copier(0, 2, 2, 1, 5, 5, letter))
        for name in ("Q", "Q1", "Q2", "Q3"):
            self.check(-5, take(BASE + f"pin {name} 7 7\n"), copier(0, 2, 2, 1, 5, 5, 16))
        for name in ("Q4", "Q10", "Q11", "Q30"):
            self.assertEqual(ask(take(BASE + f"pin {name} 7 7\n"), copier(0, 2, 2, 1, 5, 5, 16)), [[4], [8]])

    def test_what_would_come_is_no_linkage(self):
        self.check(-3, take(BASE), copier(0, 2, -1, 1, 500, 5, D))
        self.assertEqual(ask(take(BASE), copier(0, 2, -1, 2, 666, 5, D)), [[3], [7]])
        self.check(-3, take(BASE), copier(0, 2, -1, 2, 668, 5, D))
        self.assertEqual(ask(take(BASE + pins(17)), copier(0, 2, 2, 1, 5, 5, D)), [[20], [24]])
        self.check(-3, take(BASE + pins(18)), copier(0, 2, 2, 1, 5, 5, D))

    def test_order_of_refusals(self):
        full = take(BASE + pins(21))
        self.check(-1, full, copier(HUGE, HUGE, 2, 1, 5, 5, 26))
        self.check(-1, full, copier(0, 0, 99, 1, 999, 1000, 0))
        self.check(-4, full, copier(0, 0, 99, 1, 999, 5, 0))
        self.check(-4, full, copier(0, 24, 99, 1, 999, 5, 0))
        self.check(-5, full, copier(0, 1, 99, 1, 999, 5, 0))
        self.check(-3, full, copier(0, 1, 99, 1, 999, 5, D))


class Inversor(Refusals):
    def test_lines(self):
        calls = take(BASE), inversor(1, 2, 30, 20, D)
        self.assertEqual(ask(*calls), [[3], [6]])
        self.assertEqual(printed(*calls), BASE + lines_text("dyad D B 30 C 20", "dyad D1 B 30 C 20", "dyad D2 D 20 D1 20"))

    def test_o_behind_p(self):
        self.assertEqual(printed(take(BASE), inversor(2, 0, 999, 998, 25)),
                         BASE + lines_text("dyad Z C 999 A 998", "dyad Z1 C 999 A 998", "dyad Z2 Z 998 Z1 998"))

    def test_least_lengths(self):
        self.assertEqual(ask(take(BASE), inversor(1, 2, 2, 1, D)), [[3], [6]])

    def test_no_linkage(self):
        self.check(-9, inversor(0, 2, 30, 20, D))
        self.check(-9, inversor(HUGE, HUGE, 0, HUGE, HUGE))

    def test_wrong_numbers(self):
        for a, b, letter in ((30, 20, 26), (30, 20, HUGE), (1000, 20, D), (HUGE, 20, D), (30, 0, D), (0, 0, D),
                             (30, 30, D), (20, 30, D), (999, 1000, D), (1, 0, D)):
            self.check(-1, take(BASE), inversor(0, 2, a, b, letter))

    def test_no_such_lines(self):
        for o, p in ((3, 2), (0, 3), (0, HUGE), (HUGE, 0), (1, 1), (HUGE, HUGE)):
            self.check(-4, take(BASE), inversor(o, p, 30, 20, D))

    def test_names_taken(self):
        self.check(-5, take(BASE), inversor(0, 2, 30, 20, 1))
        for name in ("Q", "Q1", "Q2"):
            self.check(-5, take(BASE + f"pin {name} 7 7\n"), inversor(0, 2, 30, 20, 16))
        for name in ("Q3", "Q12", "Q20"):
            self.assertEqual(ask(take(BASE + f"pin {name} 7 7\n"), inversor(0, 2, 30, 20, 16)), [[4], [7]])

    def test_what_would_come_is_no_linkage(self):
        self.check(-3, take(BASE + "dyad D C 3 B 4\n"), inversor(0, 2, 30, 20, E))
        self.assertEqual(ask(take(BASE + pins(18)), inversor(0, 2, 30, 20, E)), [[21], [24]])
        self.check(-3, take(BASE + pins(19)), inversor(0, 2, 30, 20, E))

    def test_order_of_refusals(self):
        full = take(BASE + pins(21))
        self.check(-1, full, inversor(24, 24, 20, 20, 0))
        self.check(-4, full, inversor(24, 0, 30, 20, 0))
        self.check(-4, full, inversor(0, 0, 30, 20, 0))
        self.check(-5, full, inversor(0, 1, 30, 20, 0))
        self.check(-3, full, inversor(0, 1, 30, 20, D))


if __name__ == "__main__":
    unittest.main()
