"""linkparts.linkage.answers: calls one behind another, and what is given back."""

import unittest

from linkparts.linkage import answers
from tests.helper import (BASE, PRINT, QUARTER, ask, bits_of, copier, cut, figures, inversor, point, rename, round_one,
                          scale, shift, straight, take)

SMALL = "pin A 1 0\ncrank B A 1\n"
CODES = list(SMALL.encode("ascii"))
TURNED = list(b"pin A 0 1\ncrank B A 1\n")
# Each call but take, so that it is not refused behind BASE.
EACH = [PRINT, copier(1, 2, 2, 1, 5, 5, 3), inversor(1, 2, 5, 4, 3), shift(1, 1), QUARTER, scale(2), rename(0, 25, 9),
        cut(1), straight(3, 20, 19), round_one(3, 4, 20, 19), figures(1, 2), point(1, 2, 0, 2, 0)]
# Calls that are refused behind BASE.
REFUSED = [copier(1, 2, 2, 1, 5, 5, 26), inversor(1, 2, 4, 4, 3), shift(2001, 1), scale(0), rename(0, 26, 9), cut(3),
           straight(0, 20, 19), round_one(3, 3, 20, 19), figures(0, 0), point(1, 2, 1, 2, 0)]


class Interface(unittest.TestCase):
    def test_empty_list(self):
        self.assertEqual(answers([]), [])

    def test_calls_one_behind_another(self):
        calls = PRINT + take("pin") + take(SMALL) + PRINT + QUARTER + PRINT + scale(0) + take("x" * 2049)
        self.assertEqual(answers(calls), [1, -9, 3, -6, 1, 3, 1, 2, 24, 22, 22] + CODES + [1, 2, 24, 22, 22]
                         + TURNED + [1, -1, 1, -2])

    def test_empty_text(self):
        self.assertEqual(answers([0, 0, 1]), [3, -6, 1, 0, 1, -9])

    def test_answers_of_the_last_six(self):
        self.assertEqual(answers(rename(0, 0, 0) + cut(0) + straight(3, 20, 19) + rename(5, 25, 1) + figures(0, 1)),
                         [1, -9, 1, -9, 1, 6, 1, 6, 6, 4, 4, 1, 2, 5, 6])
        self.assertEqual(answers(straight(3, 20, 19) + point(0, 1, 1, 1, 0) + cut(5) + point(1, 0, 0, 0, 0) + cut(0)),
                         [1, 6, 4, 0, 2, bits_of(3.0), 0, 1, 5, 1, -3, 1, 2])
        self.assertEqual(answers(round_one(4, 3, 20, 7) + figures(0, 0) + point(0, 1, 8, 1, 0) + cut(1) + figures(1, 0)),
                         [6, 6, 4, 1404, 7, 1053, 7, 1, -1, 1, -3, 1, -3, 2, 0, 0])

    def test_every_call_takes_its_own_numbers(self):
        for call in EACH + REFUSED:
            given = ask(take(BASE), call, take(SMALL), PRINT)
            self.assertEqual(len(given), 4)
            self.assertEqual(given[2:], [[2], [22, 22] + CODES])

    def test_refusals_are_one_number_alone(self):
        for call in EACH:
            if call[0] not in (9, 10):
                self.assertEqual(answers(call), [1, -9])
        for call, refusal in zip(REFUSED, (-1, -1, -1, -1, -1, -4, -1, -1, -1, -3)):
            self.assertEqual(answers(take(BASE) + call), [1, 3, 1, refusal])

    def test_what_is_handed_in_stays(self):
        calls = take(BASE) + sum(EACH, []) + sum(REFUSED, []) + take("pin") + take("x" * 2049) + sum(EACH, [])
        copy = list(calls)
        answers(calls)
        self.assertEqual(calls, copy)

    def test_nothing_is_kept(self):
        calls = take(BASE) + sum(EACH, []) + take("?") + sum(REFUSED, [])
        first = answers(calls)
        kept = list(first)
        self.assertEqual(answers(PRINT), [1, -9])
        first.clear()
        self.assertEqual(answers(calls), kept)

    def test_gives_back_whole_numbers_in_a_list(self):
        for call in EACH + REFUSED + [take("?")]:
            given_back = answers(take(BASE) + call + take(BASE) + inversor(1, 2, 9, 8, 25) + figures(1, 2)
                                 + point(1, 2, 5, 5, 1))
            self.assertIs(type(given_back), list)
            self.assertEqual({type(number) for number in given_back}, {int})

    def test_three_hundred_calls(self):
        given = ask(take(BASE), *[QUARTER] * 298, PRINT)
        self.assertEqual(given[1:299], [[3]] * 298)
        self.assertEqual(bytes(given[299][2:]), b"pin A 0 0\npin B -5 0\ncrank C A 2\n")

    def test_three_hundred_calls_with_figures(self):
        given = ask(straight(3, 20, 19), *[figures(1, 1), point(1, 1, 1, 5, 0), point(1, 1, 6, 2, 3)] * 99, PRINT,
                    rename(5, 25, 0))
        self.assertEqual(len(given), 300)
        self.assertEqual(given[1:298:3], [[4, 4, 1, 2, 5, 6]] * 99)
        self.assertEqual(given[2:298:3], [given[2]] * 99)
        self.assertEqual(given[3:298:3], [[0, 2, bits_of(3.0), bits_of(3.0)]] * 99)

    def test_sixteen_thousand_numbers(self):
        calls = take("x" * 4000) * 3 + take(BASE) * 100 + point(0, 1, 0, 1, 0) * 99
        self.assertEqual(len(calls), 16000)
        self.assertEqual(answers(calls), [1, -2] * 3 + [1, 3] * 100 + [4, 0, 2, bits_of(5.0), 0] * 99)

    def test_parts_and_moves_together(self):
        given = ask(take("pin A 0 0\npin B 5 0\ncrank C A 2\n"), copier(1, 2, 1, 2, 8, 6, 3), shift(-5, 1), QUARTER,
                    scale(10), PRINT)
        self.assertEqual(given[:5], [[3], [7], [7], [7], [7]])
        self.assertEqual(bytes(given[5][2:]), b"pin A -10 -50\npin B -10 0\ncrank C A 20\ndyad D B 80 C 60\n"
                         b"rider D1 B D 1/2 0\ndyad D2 C 40 D1 60\nrider D3 D1 D2 1/2 0\n")


if __name__ == "__main__":
    unittest.main()
