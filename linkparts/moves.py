"""Moves, turns and enlarges a linkage.

A rider's u and v are shares of its piece, so they stay in all of these.
"""

from linkparts.bounds import check_linkage, is_length
from linkparts.lines import with_numbers
from linkparts.refusals import WrongNumber

MOST_OF_SHIFT = 2000


def shifted_line(line, dx, dy):
    """The line, its pin moved if it is one."""
    if line.word != "pin":
        return line
    return with_numbers(line, (line.numbers[0] + dx, line.numbers[1] + dy))


def turned_line(line):
    """The line, its pin turned by a quarter to the left if it is one."""
    if line.word != "pin":
        return line
    return with_numbers(line, (-line.numbers[1], line.numbers[0]))


def enlarged_line(line, factor):
    """The line, its place or its lengths so many times as large."""
    if line.word == "rider":
        return line
    return with_numbers(line, tuple([factor * number for number in line.numbers]))


def shifted(lines, dx, dy):
    """The lines, all pins moved by (dx, dy)."""
    if abs(dx) > MOST_OF_SHIFT or abs(dy) > MOST_OF_SHIFT:
        raise WrongNumber()
    return check_linkage([shifted_line(line, dx, dy) for line in lines])


def turned(lines):
    """The lines, all pins turned about (0, 0) by a quarter to the left."""
    return [turned_line(line) for line in lines]


def enlarged(lines, factor):
    """The lines, all places and lengths so many times as large."""
    if not is_length(factor):
        raise WrongNumber()
    return check_linkage([enlarged_line(line, factor) for line in lines])
