"""The bounds that numbers and linkages keep to."""

from linkparts.lines import count_word
from linkparts.refusals import NoSuchLine, NotALinkage

MOST_LINES = 24
MOST_DYADS = 3
MOST_OF_PLACE = 999
MOST_OF_LENGTH = 999
MOST_DIVISOR = 20
LAST_LETTER = 25
MOST_OF_NAME = 99


def common_factor(n, d):
    """The greatest number that divides both; of 0 and d it is d."""
    n = abs(n)
    while d != 0:
        rest = n % d
        n = d
        d = rest
    return n


def is_letter(letter):
    """Whether there is a letter of that number."""
    return letter <= LAST_LETTER


def is_length(number):
    """Whether a bar can be that long."""
    return 1 <= number <= MOST_OF_LENGTH


def is_place(number):
    """Whether a pin's x or y can be that number."""
    return abs(number) <= MOST_OF_PLACE


def numbers_fit(line):
    """Whether a line's places or lengths are within their bounds."""
    # A rider's u and v come from a text or a checked factor, and no call changes them.
    if line.word == "rider":
        return True
    if line.word == "pin":
        return all([is_place(number) for number in line.numbers])
    return all([is_length(number) for number in line.numbers])


def check_line(lines, k):
    """Refuses if there is no line k."""
    if k >= len(lines):
        raise NoSuchLine()


def check_linkage(lines):
    """Gives the lines back if they are a linkage, else refuses.

    No rank is looked at: a rank counts dyads that stand one on another, so
    where there are three dyads at most none is above 3.
    """
    if len(lines) > MOST_LINES or count_word(lines, "dyad") > MOST_DYADS:
        raise NotALinkage()
    if not all([numbers_fit(line) for line in lines]):
        raise NotALinkage()
    return lines
