"""Puts copiers and inversors into a linkage."""

from linkparts.bounds import MOST_DIVISOR, check_line, check_linkage, common_factor, is_length, is_letter
from linkparts.lines import Line, find_name
from linkparts.refusals import NameTaken, NoSuchLine, WrongNumber

MOST_OF_FACTOR = 99
NOTHING = (0, 1)


def is_factor(n, d):
    """Whether n / d may be a copier's factor."""
    if abs(n) > MOST_OF_FACTOR or not 1 <= d <= MOST_DIVISOR:
        return False
    return common_factor(n, d) == 1 and n != 0 and n != d


def check_points(lines, o, p):
    """Refuses if o and p aren't two lines."""
    check_line(lines, o)
    check_line(lines, p)
    if o == p:
        raise NoSuchLine()


def new_names(lines, letter, how_many):
    """The letter alone, then with 1, 2 and so on, if no line has one of these names."""
    names = [(letter, number) for number in range(how_many)]
    if any([find_name(lines, name) is not None for name in names]):
        raise NameTaken()
    return names


def with_copier(lines, o, p, n, d, length, other, letter):
    """The lines, and behind them those of a copier with the factor n / d."""
    if not (is_letter(letter) and is_length(length) and is_length(other)):
        raise WrongNumber()
    if not is_factor(n, d) or length % d != 0:
        raise WrongNumber()
    check_points(lines, o, p)
    names = new_names(lines, letter, 4)
    first = len(lines)
    far_length = abs(n - d) * (length // d)
    return check_linkage(lines + [
        Line("dyad", names[0], (o, p), (length, other)),
        Line("rider", names[1], (o, first), ((n, d), NOTHING)),
        Line("dyad", names[2], (p, first + 1), (far_length, other)),
        Line("rider", names[3], (first + 1, first + 2), ((n, d), NOTHING)),
    ])


def with_inversor(lines, o, p, a, b, letter):
    """The lines, and behind them those of an inversor with the lengths a and b."""
    if not (is_letter(letter) and is_length(a) and is_length(b) and b < a):
        raise WrongNumber()
    check_points(lines, o, p)
    names = new_names(lines, letter, 3)
    first = len(lines)
    return check_linkage(lines + [
        Line("dyad", names[0], (o, p), (a, b)),
        Line("dyad", names[1], (o, p), (a, b)),
        Line("dyad", names[2], (first, first + 1), (b, b)),
    ])
