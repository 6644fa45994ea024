"""What the tests share: calls, answers taken apart, and figures in decimals of many digits."""

import math
import struct
import unittest
from decimal import Context, Decimal, setcontext
from fractions import Fraction

from linkparts.linkage import answers

# What lies nearer to a border than this is taken to lie on it: no linkage of the tests comes that near otherwise.
setcontext(Context(prec=200))
NEAR = Decimal(10) ** -80

PRINT = [1]
QUARTER = [5]
HUGE = 9223372036854775807
MODES = (0, 1, 2, 3)
BASE = "pin A 0 0\npin B 5 0\ncrank C A 2\n"


def take(text):
    codes = list(text.encode("ascii")) if isinstance(text, str) else list(text)
    return [0, len(codes)] + codes


def copier(o, p, n, d, length, other, letter):
    return [2, o, p, n, d, length, other, letter]


def inversor(o, p, a, b, letter):
    return [3, o, p, a, b, letter]


def shift(dx, dy):
    return [4, dx, dy]


def scale(f):
    return [6, f]


def rename(i, letter, number):
    return [7, i, letter, number]


def cut(i):
    return [8, i]


def straight(r, a, b):
    return [9, r, a, b]


def round_one(e, r, a, b):
    return [10, e, r, a, b]


def figures(a, b):
    return [11, a, b]


def point(a, b, sides, i, mode):
    return [12, a, b, sides, i, mode]


def ask(*calls):
    """One list of numbers for each call: all that it answered."""
    given_back = answers([number for call in calls for number in call])
    apart = []
    place = 0
    while place < len(given_back):
        end = place + 1 + given_back[place]
        apart.append(given_back[place + 1:end])
        place = end
    return apart


def printed(*calls):
    """The text that print answers behind those calls."""
    answer = ask(*calls, PRINT)[-1]
    assert answer[0] == answer[1] == len(answer) - 2
    return bytes(answer[2:]).decode("ascii")


def lines_text(*lines):
    return "".join(line + "\n" for line in lines)


class Refusals(unittest.TestCase):
    def check(self, answer, *calls):
        """The last call is refused so, and the linkage stays as it was."""
        before = ask(*calls[:-1], PRINT)[-1]
        given = ask(*calls, PRINT)
        self.assertEqual(given[-2], [answer], calls[-1])
        self.assertEqual(given[-1], before)


def told(a, b, *calls):
    """The sides that figures answers behind those calls."""
    answer = ask(*calls, figures(a, b))[-1]
    assert answer[0] == answer[1] == len(answer) - 2
    return answer[2:]


def stands(a, b, sides, i, mode, *calls):
    """The bits of x and y that point answers behind those calls, or its refusal."""
    answer = ask(*calls, point(a, b, sides, i, mode))[-1]
    if len(answer) == 1:
        return answer[0]
    assert answer[:2] == [0, 2]
    return answer[2:]


def bits_of(double):
    return struct.unpack(">Q", struct.pack(">d", double))[0]


def double_of(bits):
    return struct.unpack(">d", struct.pack(">Q", bits))[0]


def as_decimal(value):
    if isinstance(value, Fraction):
        return Decimal(value.numerator) / value.denominator
    return Decimal(value)


def is_near(value, other):
    return abs(as_decimal(value) - as_decimal(other)) < NEAR


def rounded(value, mode):
    """The bits of the double that a Fraction or Decimal is rounded to; none is as small as the least doubles."""
    if is_near(0, value):
        return 0
    nearest = float(Fraction(value))
    if is_near(nearest, value):
        return bits_of(nearest)
    below = nearest if Fraction(nearest) < Fraction(value) else math.nextafter(nearest, -math.inf)
    above = math.nextafter(below, math.inf)
    if mode == 0:
        if is_near((Fraction(below) + Fraction(above)) / 2, value):
            return min(bits_of(below), bits_of(above), key=lambda bits: bits & 1)
        return bits_of(nearest)
    if mode == 3:
        return bits_of(min(below, above, key=abs))
    return bits_of(below if mode == 1 else above)


def share(word):
    parts = word.split("/")
    return Decimal(parts[0]) / Decimal(parts[1] if len(parts) == 2 else 1)


def turned_left(way):
    return (-way[1], way[0])


def onward(start, way, much):
    return (start[0] + way[0] * much, start[1] + way[1] * much)


def way_to(start, end):
    return (end[0] - start[0], end[1] - start[1])


def length_of(way):
    return (way[0] * way[0] + way[1] * way[1]).sqrt()


def dyad_point(p, p_length, q, q_length, on_right):
    """Where the two circles meet on that side, and whether they touch; None if they don't meet."""
    gap = length_of(way_to(p, q))
    beyond = gap - p_length - q_length
    within = abs(p_length - q_length) - gap
    if gap < NEAR or beyond > NEAR or within > NEAR:
        return None
    touches = beyond > -NEAR or within > -NEAR
    along = (gap * gap + p_length ** 2 - q_length ** 2) / (2 * gap)
    across = Decimal(0) if touches else (p_length ** 2 - along * along).sqrt()
    way = onward((0, 0), way_to(p, q), 1 / gap)
    return onward(onward(p, way, along), turned_left(way), -across if on_right else across), touches


def figure(text, a, b, sides):
    """The points of a linkage's figure, in the lines' order, and whether its sides are told; None if it's open."""
    points = {}
    dyads = 0
    is_told = True
    for line in text.splitlines():
        words = line.split(" ")
        if words[0] == "pin":
            points[words[1]] = (Decimal(words[2]), Decimal(words[3]))
        elif words[0] == "crank":
            turn = (Decimal(b * b - a * a) / (b * b + a * a), Decimal(2 * a * b) / (b * b + a * a))
            points[words[1]] = onward(points[words[2]], turn, int(words[3]))
        elif words[0] == "dyad":
            found = dyad_point(points[words[2]], int(words[3]), points[words[4]], int(words[5]), sides >> dyads & 1)
            if found is None:
                return None
            points[words[1]] = found[0]
            is_told = is_told and not (found[1] and sides >> dyads & 1)
            dyads += 1
        else:
            p = points[words[2]]
            way = way_to(p, points[words[3]])
            points[words[1]] = onward(onward(p, way, share(words[4])), turned_left(way), share(words[5]))
    return None if sides >> dyads else (list(points.values()), is_told)
