"""linkparts.linkage.answers: calls one behind another, and what is given back."""

import unittest

from linkparts.linkage import answers
from tests.helper import BASE, PRINT, QUARTER, ask, copier, inversor, scale, shift, take

SMALL = "pin A 1 0\ncrank B A 1\n"
CODES = list(SMALL.encode("ascii"))
TURNED = list(b"pin A 0 1\ncrank B A 1\n")


class Interface(unittest.TestCase):
    def test_empty_list(self):
        self.assertEqual(answers([]), [])

    def test_calls_one_behind_another(self):
        calls = PRINT + take("pin") + take(SMALL) + PRINT + QUARTER + PRINT + scale(0) + take("x" * 2049)
        self.assertEqual(answers(calls), [1, -9, 3, -6, 1, 3, 1, 2, 24, 22, 22] + CODES + [1, 2, 24, 22, 22]
                         + TURNED + [1, -1, 1, -2])

    def test_empty_text(self):
        self.assertEqual(answers([0, 0, 1]), [3, -6, 1, 0, 1, -9])

    def test_every_call_takes_its_own_numbers(self):
        for call in (copier(1, 2, 2, 1, 5, 5, 3), inversor(1, 2, 5, 4, 3), shift(1, 1), QUARTER, scale(2), PRINT):
            given = ask(take(BASE), call, take(SMALL), PRINT)
            self.assertEqual(len(given), 4)
            self.assertEqual(given[2:], [[2], [22, 22] + CODES])

    def test_what_is_handed_in_stays(self):
        calls = take(BASE) + copier(1, 2, 2, 1, 5, 5, 3) + shift(1, 1) + QUARTER + scale(2) + PRINT + take("pin")
        copy = list(calls)
        answers(calls)
        self.assertEqual(calls, copy)

    def test_nothing_is_kept(self):
        calls = take(BASE) + inversor(1, 2, 5, 4, 3) + PRINT + copier(1, 2, 2, 1, 5, 5, 3) + take("?")
        first = answers(calls)
        kept = list(first)
        self.assertEqual(answers(PRINT), [1, -9])
        first.clear()
        self.assertEqual(answers(calls), kept)

    def test_gives_back_whole_numbers_in_a_list(self):
        given_back = answers(take(BASE) + PRINT + take("?") + shift(2001, 0))
        self.assertIs(type(given_back), list)
        self.assertEqual({type(number) for number in given_back}, {int})

    def test_three_hundred_calls(self):
        given = ask(take(BASE), *[QUARTER] * 298, PRINT)
        self.assertEqual(given[1:299], [[3]] * 298)
        self.assertEqual(bytes(given[299][2:]), b"pin A 0 0\npin B -5 0\ncrank C A 2\n")

    def test_parts_and_moves_together(self):
        given = ask(take("pin A 0 0\npin B 5 0\ncrank C A 2\n"), copier(1, 2, 1, 2, 8, 6, 3), shift(-5, 1), QUARTER,
                    scale(10), PRINT)
        self.assertEqual(given[:5], [[3], [7], [7], [7], [7]])
        self.assertEqual(bytes(given[5][2:]), b"pin A -10 -50\npin B -10 0\ncrank C A 20\ndyad D B 80 C 60\n"
                         b"rider D1 B D 1/2 0\ndyad D2 C 40 D1 60\nrider D3 D1 D2 1/2 0\n")


if __name__ == "__main__":
    unittest.main()
