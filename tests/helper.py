"""What the tests share: calls, answers taken apart, and figures in floats."""

import math

from linkparts.linkage import answers

PRINT = [1]
QUARTER = [5]
BASE = "pin A 0 0\npin B 5 0\ncrank C A 2\n"


def take(text):
    codes = list(text.encode("ascii")) if isinstance(text, str) else list(text)
    return [0, len(codes)] + codes


def copier(o, p, n, d, length, other, letter):
    return [2, o, p, n, d, length, other, letter]


def inversor(o, p, a, b, letter):
    return [3, o, p, a, b, letter]


def shift(dx, dy):
    return [4, dx, dy]


def scale(f):
    return [6, f]


def ask(*calls):
    """One list of numbers for each call: all that it answered."""
    given_back = answers([number for call in calls for number in call])
    apart = []
    place = 0
    while place < len(given_back):
        end = place + 1 + given_back[place]
        apart.append(given_back[place + 1:end])
        place = end
    return apart


def printed(*calls):
    """The text that print answers behind those calls."""
    answer = ask(*calls, PRINT)[-1]
    assert answer[0] == answer[1] == len(answer) - 2
    return bytes(answer[2:]).decode("ascii")


def lines_text(*lines):
    return "".join(line + "\n" for line in lines)


def share(word):
    parts = word.split("/")
    return int(parts[0]) / (int(parts[1]) if len(parts) == 2 else 1)


def dyad_point(p, p_length, q, q_length, on_right):
    """Where the two circles meet on that side, or None."""
    way = q - p
    gap = abs(way)
    if gap < 1e-9:
        return None
    along = (gap * gap + p_length ** 2 - q_length ** 2) / (2 * gap)
    square = p_length ** 2 - along ** 2
    # Near to touching, floats tell nothing sure: such figures are left out.
    if square < 1e-3:
        return None
    across = -math.sqrt(square) if on_right else math.sqrt(square)
    return p + way / gap * complex(along, across)


def figure(text, a, b, sides):
    """The points (complex) of a linkage's figure, in the lines' order, or None."""
    points = {}
    dyads = 0
    for line in text.splitlines():
        words = line.split(" ")
        name = words[1]
        if words[0] == "pin":
            points[name] = complex(int(words[2]), int(words[3]))
        elif words[0] == "crank":
            turn = complex(b * b - a * a, 2 * a * b) / (b * b + a * a)
            points[name] = points[words[2]] + int(words[3]) * turn
        elif words[0] == "dyad":
            points[name] = dyad_point(points[words[2]], int(words[3]), points[words[4]], int(words[5]),
                                      sides >> dyads & 1)
            dyads += 1
            if points[name] is None:
                return None
        else:
            p = points[words[2]]
            points[name] = p + (points[words[3]] - p) * complex(share(words[4]), share(words[5]))
    return list(points.values())
