"""The figures of a linkage at a place of its crank."""

from linkparts.bounds import MOST_DYADS, check_line
from linkparts.doubles import double_bits
from linkparts.lines import count_word
from linkparts.refusals import NotClosed, WrongNumber
from linkparts.spots import (Figure, meeting, product_of_factors, with_crank, with_meeting, with_pin, with_rider,
                             with_touching)
from linkparts.surds import sign_of

MOST_OF_CRANK_PLACE = 99
LAST_MODE = 3
LEFT_OR_RIGHT = (0, 1)


def with_dyad(figure, line, bits):
    """The figures and the dyad's pin on each of the sides; of circles that touch on the first one alone."""
    found = meeting(figure, line.hangs_on[0], line.hangs_on[1], line.numbers[0], line.numbers[1])
    sign = sign_of(found.square, figure.squares)
    if sign > 0:
        return [with_meeting(figure, found, bit) for bit in bits]
    # P and Q at one point and bars of one length: the circles are one, and neither meet nor touch.
    if sign < 0 or sign_of(found.factor, figure.squares) == 0:
        return []
    return [with_touching(figure, found, bits[0])]


def with_line(figure, line, place, choices):
    """The figures and one line's point; choices: for each dyad the sides on which it may stand."""
    numbers = line.numbers
    if line.word == "pin":
        return [with_pin(figure, numbers[0], numbers[1])]
    if line.word == "crank":
        return [with_crank(figure, line.hangs_on[0], numbers[0], place)]
    if line.word == "rider":
        return [with_rider(figure, line.hangs_on[0], line.hangs_on[1], numbers[0], numbers[1])]
    return with_dyad(figure, line, choices[len(figure.bits)])


def figures_of(lines, place, choices):
    """All figures that close, with the dyads on the sides that they may stand on."""
    figures = [Figure([], [], (), ())]
    for line in lines:
        longer = []
        for figure in figures:
            longer.extend(with_line(figure, line, place, choices))
        figures = longer
    return figures


def sides_of(figure):
    """The number that tells on which sides a figure's dyads stand."""
    return sum([bit << k for k, bit in enumerate(figure.bits)])


def check_place(a, b):
    """Refuses if (a, b) is no place of a crank."""
    if abs(a) > MOST_OF_CRANK_PLACE or abs(b) > MOST_OF_CRANK_PLACE or a == 0 and b == 0:
        raise WrongNumber()


def told_sides(lines, a, b):
    """The sides that are told at a place, rising."""
    check_place(a, b)
    figures = figures_of(lines, (a, b), (LEFT_OR_RIGHT,) * MOST_DYADS)
    return sorted([sides_of(figure) for figure in figures])


def closed_figure(lines, place, sides):
    """The figure with those sides; refuses if it doesn't close."""
    if sides >> count_word(lines, "dyad") != 0:
        raise NotClosed()
    figures = figures_of(lines, place, [(sides >> k & 1,) for k in range(MOST_DYADS)])
    if len(figures) == 0:
        raise NotClosed()
    return figures[0]


def point_bits(lines, a, b, sides, i, mode):
    """The doubles' bits of point i's x and y in a figure."""
    check_place(a, b)
    if mode > LAST_MODE:
        raise WrongNumber()
    check_line(lines, i)
    figure = closed_figure(lines, (a, b), sides)
    spot = figure.spots[i]
    divisor = product_of_factors(figure, spot.divided_by)
    return [double_bits(number, divisor, figure.squares, mode) for number in (spot.x, spot.y)]
