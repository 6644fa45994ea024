"""rename and cut: the lines that come, and each refusal in its order."""

import unittest

from tests.helper import BASE, HUGE, PRINT, Refusals, ask, copier, cut, inversor, lines_text, printed, rename, take

WHOLE = lines_text("pin A 0 0", "pin B 5 -7", "rider C A B 1/2 -3", "crank D C 2", "dyad E D 3 B 4",
                   "rider F E D -5/7 0", "dyad G9 F 30 A 31", "rider G G9 A 2 2/3")


def lines_named(letters, text=WHOLE):
    """The lines with those names alone, in their order."""
    return "".join(line + "\n" for line in text.splitlines() if line.split(" ")[1] in letters.split(" "))


class Rename(Refusals):
    def check_renamed(self, call, *changes):
        text = WHOLE
        for old, new in changes:
            self.assertIn(old, text)
            text = text.replace(old, new)
        self.assertEqual(ask(take(WHOLE), call), [[8], [8]])
        self.assertEqual(printed(take(WHOLE), call), text)

    def test_a_letter_alone(self):
        self.check_renamed(rename(7, 25, 0), ("rider G ", "rider Z "))
        self.check_renamed(rename(6, 7, 0), ("G9", "H"))
        self.check_renamed(rename(1, 24, 0), ("B", "Y"))

    def test_a_letter_and_a_number(self):
        self.check_renamed(rename(7, 6, 1), ("rider G ", "rider G1 "))
        self.check_renamed(rename(6, 6, 99), ("G9", "G99"))
        self.check_renamed(rename(0, 0, 10), ("A", "A10"))

    def test_lines_that_name_it(self):
        self.check_renamed(rename(0, 23, 5), ("pin A ", "pin X5 "), ("C A B", "C X5 B"), ("30 A 31", "30 X5 31"),
                           ("G9 A", "G9 X5"))
        self.check_renamed(rename(3, 23, 0), ("crank D C", "crank X C"), ("E D 3", "E X 3"), ("E D -5", "E X -5"))
        self.check_renamed(rename(4, 25, 25), ("dyad E ", "dyad Z25 "), ("F E D", "F Z25 D"))

    def test_to_its_own_name(self):
        self.check_renamed(rename(0, 0, 0))
        self.check_renamed(rename(6, 6, 9))

    def test_twice_back_again(self):
        self.assertEqual(printed(take(WHOLE), rename(3, 25, 99), rename(3, 3, 0)), WHOLE)
        self.assertEqual(printed(take(WHOLE), rename(6, 0, 1), rename(6, 6, 9)), WHOLE)

    def test_a_name_that_is_free_again(self):
        text = printed(take(BASE), rename(0, 25, 0), rename(1, 0, 0), rename(0, 1, 0))
        self.assertEqual(text, "pin B 0 0\npin A 5 0\ncrank C B 2\n")

    def test_parts_look_at_the_new_name(self):
        self.check(-5, take(BASE), rename(1, 3, 2), inversor(0, 2, 5, 4, 3))
        self.assertEqual(ask(take(BASE), rename(1, 3, 4), copier(0, 2, 2, 1, 5, 5, 3)), [[3], [3], [7]])

    def test_another_lines_name(self):
        self.check(-5, take(WHOLE), rename(0, 1, 0))
        self.check(-5, take(WHOLE), rename(1, 0, 0))
        self.check(-5, take(WHOLE), rename(7, 6, 9))
        self.check(-5, take(WHOLE), rename(6, 6, 0))

    def test_wrong_numbers(self):
        for letter, number in ((26, 0), (HUGE, 1), (25, 100), (0, HUGE), (26, 100)):
            self.check(-1, take(WHOLE), rename(0, letter, number))

    def test_no_such_line(self):
        for i in (8, 9, 23, 24, HUGE):
            self.check(-4, take(WHOLE), rename(i, 25, 0))

    def test_order_of_refusals(self):
        self.check(-9, rename(0, 25, 0))
        self.check(-9, rename(HUGE, 26, 100))
        self.check(-1, take(WHOLE), rename(8, 26, 0))
        self.check(-1, take(WHOLE), rename(8, 0, 100))
        self.check(-4, take(WHOLE), rename(8, 0, 0))


class Cut(Refusals):
    def check_left(self, i, letters, text=WHOLE):
        left = lines_named(letters, text)
        self.assertEqual(ask(take(text), cut(i))[1], [left.count("\n")])
        self.assertEqual(printed(take(text), cut(i)), left)
        # What's left is read again: so it's a linkage, and names no line that's gone.
        self.assertEqual(printed(take(left)), left)

    def test_a_line_on_which_none_hangs(self):
        self.check_left(7, "A B C D E F G9")

    def test_lines_that_hang_on_it(self):
        self.check_left(6, "A B C D E F")

    def test_lines_that_hang_on_one_another(self):
        self.check_left(5, "A B C D E")
        self.check_left(4, "A B C D")

    def test_lines_between_stay(self):
        text = lines_text("pin A 0 0", "pin B 5 -7", "pin C 9 9", "dyad D A 3 B 4", "crank E C 7", "rider F D B 1 1/2",
                          "dyad G E 12 A 13", "pin H 1 1", "rider I G A 0 -1", "dyad J F 8 I 9", "rider K C H 3 3")
        self.check_left(1, "A C E G H I K", text)
        self.check_left(3, "A B C E G H I K", text)
        self.check_left(6, "A B C D E F H K", text)
        self.check_left(7, "A B C D E F G I J", text)
        self.check_left(8, "A B C D E F G H K", text)
        self.check_left(0, "B C E H K", text)

    def test_hangs_as_p_and_as_q(self):
        text = BASE + "pin P 7 7\npin Q 8 8\ndyad D P 3 C 4\ndyad E C 3 P 4\nrider F P Q 1 1\nrider G Q P 1 1\n"
        self.check_left(3, "A B C Q", text)

    def test_what_is_left_is_used_on(self):
        calls = (take(WHOLE), cut(4), inversor(2, 3, 12, 5, 4))
        self.assertEqual(ask(*calls), [[8], [4], [7]])
        self.assertEqual(printed(*calls), lines_named("A B C D") + "dyad E C 12 D 5\ndyad E1 C 12 D 5\n"
                         "dyad E2 E 5 E1 5\n")

    def test_one_line_after_another(self):
        self.assertEqual(ask(take(WHOLE), cut(7), cut(6), cut(5), cut(4), cut(3)), [[8], [7], [6], [5], [4], [-3]])
        self.assertEqual(printed(take("pin A 0 0\npin B 1 1\ncrank C B 1\n"), cut(0)), "pin B 1 1\ncrank C B 1\n")

    def test_no_crank_left(self):
        self.check(-3, take(BASE), cut(2))
        self.check(-3, take(WHOLE), cut(3))
        self.check(-3, take(WHOLE), cut(2))
        self.check(-3, take(WHOLE), cut(1))

    def test_a_pin_on_which_all_hangs(self):
        self.check(-3, take("pin A 0 0\ncrank B A 1\n"), cut(0))
        self.check(-3, take("pin A 0 0\ncrank B A 1\nrider C A B 1 1\n"), cut(0))
        self.check(-3, take(WHOLE), cut(0))

    def test_the_only_line_but_its_pin(self):
        self.check(-3, take("pin A 0 0\ncrank B A 1\n"), cut(1))

    def test_no_such_line(self):
        for i in (8, 9, 24, HUGE):
            self.check(-4, take(WHOLE), cut(i))

    def test_order_of_refusals(self):
        self.check(-9, cut(0))
        self.check(-9, cut(HUGE))

    def test_part_put_in_and_cut_off(self):
        self.assertEqual(printed(take(BASE), copier(0, 2, 2, 1, 5, 5, 3), cut(3)), BASE)
        self.assertEqual(printed(take(BASE), inversor(0, 2, 6, 5, 3), cut(4)), BASE + "dyad D A 6 C 5\n")

    def test_refused_leaves_all(self):
        self.assertEqual(ask(take(BASE), cut(0), cut(2), cut(3), rename(0, 1, 0), PRINT)[1:5], [[-3], [-3], [-4], [-5]])
        self.assertEqual(printed(take(BASE), cut(0), cut(2), cut(3), rename(0, 1, 0)), BASE)


if __name__ == "__main__":
    unittest.main()
