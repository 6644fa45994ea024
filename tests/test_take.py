"""take and print: texts read and printed back, and each fault at its byte."""

import unittest

from tests.helper import BASE, PRINT, ask, lines_text, printed, take

FOUR_KINDS = lines_text(
    "pin A 0 0",
    "pin B99 -999 999",
    "pin C1 10 -1",
    "rider D A B99 1/2 -1/20",
    "crank E10 D 999",
    "dyad F E10 1 C1 999",
    "rider G F E10 -999 999",
    "dyad Z G 30 F 200",
    "rider H E10 F 0 -999/20",
    "dyad I H 7 A 8",
    "rider J D E10 999/2 0",
    "rider K F C1 1 2/3",
)
# Its names and numbers stay whole and right wherever they're cut or a byte is put for another.
CUTTABLE = lines_text("pin A -10 20", "pin B 33 44", "crank C A 55", "dyad D4 C 66 B 77", "rider E56 C A -1/7 88")


class Reads(unittest.TestCase):
    def test_each_kind_of_line_is_printed_back(self):
        self.assertEqual(ask(take(FOUR_KINDS)), [[12]])
        self.assertEqual(printed(take(FOUR_KINDS)), FOUR_KINDS)

    def test_print_tells_how_many_bytes_twice(self):
        codes = list(BASE.encode("ascii"))
        self.assertEqual(ask(take(BASE), PRINT), [[3], [len(codes), len(codes)] + codes])

    def test_least_linkage(self):
        text = "pin A 0 0\ncrank B A 1\n"
        self.assertEqual(ask(take(text)), [[2]])
        self.assertEqual(printed(take(text)), text)

    def test_take_in_the_place_of_another(self):
        other = "pin Q -3 4\ncrank R Q 9\n"
        self.assertEqual(printed(take(BASE), take(other)), other)

    def test_refused_take_leaves_what_was_there(self):
        self.assertEqual(printed(take(BASE), take("pin A 0 0\n"), take("x" * 2049)), BASE)

    def test_refused_take_makes_no_linkage(self):
        self.assertEqual(ask(take("pin A 0 0\n"), PRINT), [[-6, 1, 10], [-9]])

    def test_every_letter_is_a_name(self):
        text = lines_text(*[f"pin {letter} {k} 0" for k, letter in enumerate("ABCDEFGHIJKLM")]) + "crank N A 1\n"
        self.assertEqual(printed(take(text)), text)
        text = lines_text(*[f"pin {letter} {k} 0" for k, letter in enumerate("NOPQRSTUVWXYZ")]) + "crank A Z 1\n"
        self.assertEqual(printed(take(text)), text)

    def test_letter_and_numbers_are_different_names(self):
        text = lines_text("pin A 0 0", "pin A1 1 0", "pin A11 2 0", "pin A99 3 0", "pin A9 4 0", "crank A10 A9 1")
        self.assertEqual(printed(take(text)), text)

    def test_riders_of_every_piece_either_way_round(self):
        pieces = (("A", "B"), ("A", "C"), ("D", "C"), ("D", "B"))
        for p, q in pieces + tuple((q, p) for p, q in pieces):
            text = BASE + f"dyad D C 3 B 4\nrider E {p} {q} 1 1\n"
            self.assertEqual(ask(take(text)), [[5]], (p, q))

    def test_bounds_of_numbers_that_can_be(self):
        for line in ("pin D 999 -999", "pin D -1 0", "dyad D C 1 B 999", "dyad D C 999 B 1", "rider D A B 999 -999",
                     "rider D A B 1/2 1/20", "rider D A B -999/2 999/20", "rider D A B 0 0"):
            self.assertEqual(printed(take(BASE + line + "\n")), BASE + line + "\n")

    def test_rider_may_lie_on_a_pin(self):
        self.assertEqual(ask(take(BASE + "rider D A B 1 0\n")), [[4]])

    def test_crank_about_a_rider_of_the_ground(self):
        self.assertEqual(ask(take("pin A 0 0\npin B 5 0\nrider C A B 1/2 0\ncrank D C 2\n")), [[4]])

    def test_three_dyads_of_rank_three(self):
        self.assertEqual(ask(take(BASE + "dyad D C 3 B 4\ndyad E D 3 A 4\ndyad F E 3 D 4\n")), [[6]])

    def test_dyad_between_two_pins(self):
        self.assertEqual(ask(take(BASE + "dyad D A 3 B 4\n")), [[4]])


class Sizes(unittest.TestCase):
    def test_bytes(self):
        self.assertEqual(ask(take("p" * 2048)), [[-6, 1, 1]])
        self.assertEqual(ask(take("p" * 2049)), [[-2]])
        self.assertEqual(ask(take(BASE + "\n" * (2048 - len(BASE)))), [[-6, 1, len(BASE)]])
        self.assertEqual(ask(take(BASE + "\n" * (2049 - len(BASE)))), [[-2]])
        self.assertEqual(ask(take("x" * 4000)), [[-2]])

    def test_lines(self):
        text = BASE + lines_text(*[f"pin D{k} {k} 1" for k in range(1, 22)])
        self.assertEqual(ask(take(text)), [[24]])
        self.assertEqual(printed(take(text)), text)
        self.assertEqual(ask(take(text + "pin E 1 2\n")), [[-6, 1, len(text)]])

    def test_25th_line_is_told_behind_its_first_word(self):
        text = BASE + lines_text(*[f"pin D{k} {k} 1" for k in range(1, 22)])
        for line, before in (("pin", 0), ("pinx", 0), ("rider A", 0), ("crank", 0), ("dyad", 0),
                             ("pi", 2), ("pix", 2), ("x", 0), ("\n", 0), ("rides", 4)):
            self.assertEqual(ask(take(text + line)), [[-6, 1, len(text) + before]], line)

    def test_25th_line_without_a_crank(self):
        text = lines_text(*[f"pin D{k} {k} 1" for k in range(1, 25)])
        self.assertEqual(ask(take(text)), [[-6, 1, len(text)]])
        self.assertEqual(ask(take(text + "crank A D1 1\n")), [[-6, 1, len(text)]])

    def test_no_crank(self):
        self.assertEqual(ask(take("")), [[-6, 1, 0]])
        self.assertEqual(ask(take("pin A 0 0\npin B 1 0\n")), [[-6, 1, 20]])


class FaultsOfForm(unittest.TestCase):
    def test_text_that_ends_too_early(self):
        whole = [0] + [k + 1 for k, sign in enumerate(CUTTABLE) if sign == "\n"]
        for cut in range(len(CUTTABLE)):
            answer = ask(take(CUTTABLE[:cut]))[0]
            if cut in whole[3:]:
                self.assertEqual(answer, [whole.index(cut)])
            else:
                self.assertEqual(answer, [-6, 1, cut])

    def test_byte_that_can_stand_nowhere(self):
        codes = list(CUTTABLE.encode("ascii"))
        for wrong in (0, 9, 13, 43, 46, 95, 122, 128, 255):
            for place in range(len(codes)):
                text = codes[:place] + [wrong] + codes[place + 1:]
                self.assertEqual(ask(take(text)), [[-6, 1, place]], (wrong, place))

    def check(self, line, before):
        """The fault stands so many bytes behind the line's beginning."""
        self.assertEqual(ask(take(BASE + line)), [[-6, 1, len(BASE) + before]], line)

    def test_lines_and_words(self):
        self.check("\n", 0)
        self.check(" pin D 1 1\n", 0)
        self.check("Pin D 1 1\n", 0)
        self.check("bar D 1 1\n", 0)
        self.check("pins D 1 1\n", 3)
        self.check("pin  D 1 1\n", 4)
        self.check("pin D 1\n", 7)
        self.check("pin D 1 1 \n", 9)
        self.check("pin D 1 1 1\n", 9)
        self.check("pin D 1 1\r\n", 9)
        self.check("pin D 1 1", 9)
        self.check("pin D 1 1/2\n", 9)
        self.check("pin D 1/2 1\n", 7)
        self.check("dyad D C 1 B\n", 12)
        self.check("dyad D C B 1 1\n", 9)
        self.check("rider D A 1 1 1\n", 10)
        self.check("rider D A B 1\n", 13)

    def test_names(self):
        self.check("pin d 1 1\n", 4)
        self.check("pin 1 1 1\n", 4)
        self.check("pin @ 1 1\n", 4)
        self.check("pin [ 1 1\n", 4)
        self.check("pin DD 1 1\n", 5)
        self.check("pin D0 1 1\n", 5)
        self.check("pin D01 1 1\n", 5)
        self.check("pin D100 1 1\n", 7)
        self.check("pin D1/ 1 1\n", 6)
        self.check("pin D1: 1 1\n", 6)

    def test_numbers(self):
        self.check("pin D 1000 1\n", 9)
        self.check("pin D -1000 1\n", 10)
        self.check("pin D 1 1000\n", 11)
        self.check("pin D 00 1\n", 7)
        self.check("pin D 01 1\n", 7)
        self.check("pin D -0 1\n", 7)
        self.check("pin D -01 1\n", 7)
        self.check("pin D --1 1\n", 7)
        self.check("pin D - 1\n", 7)
        self.check("pin D -", 7)
        self.check("pin D +1 1\n", 6)
        self.check("dyad D C 1000 B 1\n", 12)
        self.check("dyad D C 05 B 1\n", 10)
        self.check("dyad D C -0 B 1\n", 10)
        self.check("dyad D C 1/2 B 1\n", 10)

    def test_fractions(self):
        self.check("rider D A B 1/ 0\n", 14)
        self.check("rider D A B 1/", 14)
        self.check("rider D A B 1/-2 0\n", 14)
        self.check("rider D A B /2 0\n", 12)
        self.check("rider D A B -/2 0\n", 13)
        self.check("rider D A B 1/02 0\n", 15)
        self.check("rider D A B 1/1000 0\n", 17)
        self.check("rider D A B 1000/3 0\n", 15)
        self.check("rider D A B 1/2/3 0\n", 15)
        self.check("rider D A B -0/3 0\n", 13)
        self.check("rider D A B 0 1/2 \n", 17)


class FaultsOfRightForm(unittest.TestCase):
    def check(self, line, before, base=BASE):
        """The fault stands so many bytes behind the line's beginning, whatever follows it."""
        for behind in ("", "\n", "?", " ?"):
            self.assertEqual(ask(take(base + line + behind)), [[-6, 1, len(base) + before]], line + behind)

    def test_second_crank_behind_its_first_word(self):
        self.check("crank", 0)
        self.check("crank D A 1", 0)
        self.check("crank A Z 0", 0)

    def test_fourth_dyad_behind_its_first_word(self):
        base = BASE + "dyad D C 3 B 4\ndyad E D 3 A 4\ndyad F E 3 D 4\n"
        self.check("dyad", 0, base)
        self.check("dyad G F 1 E 1", 0, base)
        self.check("dyad A A 0 A 0", 0, base)

    def test_name_that_is_there_already(self):
        self.check("pin A", 4)
        self.check("dyad C", 5)
        self.check("rider B", 6)
        self.check("crank A", 6, "pin A 0 0\n")
        self.check("pin A12", 4, "pin A12 0 0\n")

    def test_name_is_whole_only_when_no_digit_follows(self):
        self.assertEqual(ask(take(BASE + "pin A0")), [[-6, 1, len(BASE) + 5]])
        self.assertEqual(ask(take("pin A12 0 0\npin A123")), [[-6, 1, 12 + 7]])
        self.assertEqual(ask(take(BASE + "dyad D Z0")), [[-6, 1, len(BASE) + 8]])

    def test_name_that_there_is_not(self):
        self.check("dyad D D", 7)
        self.check("dyad D A1", 7)
        self.check("dyad D A 1 Z9", 11)
        self.check("rider D Z", 8)
        self.check("rider D A Z", 10)
        self.check("crank B B", 8, "pin A 0 0\n")
        self.check("crank B C", 8, "pin A 0 0\n")

    def test_p_again(self):
        self.check("dyad D A 1 A", 11)
        self.check("rider D A A", 10)
        self.check("rider D C C", 10)

    def test_crank_about_no_fixed_point(self):
        dyad = "pin A 0 0\npin B 5 0\ndyad C A 3 B 4\n"
        self.check("crank D C", 8, dyad)
        self.check("crank E D", 8, dyad + "rider D A C 1/2 0\n")
        self.check("crank E D", 8, dyad + "rider D C A 1/2 0\n")

    def test_rider_of_no_piece(self):
        base = BASE + "dyad D C 3 B 4\nrider E A B 1 1\nrider F C D 1/2 0\n"
        for p, q in (("B", "C"), ("A", "D"), ("A", "E"), ("E", "B"), ("F", "D"), ("C", "F"), ("E", "F")):
            self.check(f"rider G {p} {q}", 10, base)
            self.check(f"rider G {q} {p}", 10, base)

    def test_rider_on_the_crank_about_a_rider(self):
        base = "pin A 0 0\npin B 5 0\nrider C A B 1/2 0\ncrank D C 2\n"
        self.assertEqual(ask(take(base + "rider E D C 1 0\n")), [[5]])
        self.check("rider E A D", 10, base)

    def test_lengths(self):
        self.check("crank B A 0", 10, "pin A 0 0\n")
        self.check("crank B A -1", 10, "pin A 0 0\n")
        self.check("dyad D A 0", 9)
        self.check("dyad D A -999", 9)
        self.check("dyad D A 1 B 0", 13)
        self.check("dyad D A 1 B -12", 13)
        self.check("dyad D A 0/2", 9)

    def test_fractions(self):
        for fraction in ("1/0", "1/1", "1/21", "7/999", "-1/21", "2/4", "-6/9", "999/18", "0/2", "0/20", "0/0"):
            self.check(f"rider D A B {fraction}", 12)
            self.check(f"rider D A B 1 {fraction}", 14)

    def test_pin_where_one_is(self):
        self.check("pin D 0 0", 6)
        self.check("pin D 5 0", 6)
        self.check("pin D -7 -8", 6, "pin A -7 -8\n")
        self.assertEqual(ask(take(BASE + "pin D 0 01\n")), [[-6, 1, len(BASE) + 9]])
        self.assertEqual(ask(take(BASE + "pin D 0 5\n")), [[4]])

    def test_pin_where_none_is_though_lengths_are_as_its_place(self):
        self.assertEqual(ask(take(BASE + "dyad D C 3 B 4\npin E 3 4\n")), [[5]])

    def test_of_two_faults_the_one_looked_at_first(self):
        self.check("pin A 0 0", 4)
        self.check("dyad A Z 0 Z 0", 5)
        self.check("dyad D Z 0 Z 0", 7)
        self.check("dyad D A 0 A 0", 9)
        self.check("dyad D A 1 A 0", 11)
        self.check("rider D A A 2/4 2/4", 10)
        self.check("rider D A B 2/4 2/4", 12)
        self.check("crank A B 0", 6, "pin A 0 0\n")
        self.check("crank B C 0", 8, "pin A 0 0\n")

    def test_fault_comes_before_no_crank(self):
        self.check("pin B 0 0", 6, "pin A 0 0\n")


if __name__ == "__main__":
    unittest.main()
