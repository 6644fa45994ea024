"""Reads names and numbers of a linkage's text, byte by byte."""

from linkparts.bounds import MOST_DIVISOR, common_factor
from linkparts.refusals import TextFault

MINUS = 45
SLASH = 47
ZERO = 48
NINE = 57
LETTER_A = 65
LETTER_Z = 90
MOST_DIGITS_OF_NUMBER = 3
MOST_DIGITS_OF_NAME = 2
LEAST_DIVISOR = 2
NO_BYTE = 256


class Scanner:
    """A text, and how many of its bytes have been read."""

    def __init__(self, text):
        self.text = text
        self.place = 0

    def ahead(self):
        """The byte that comes next; at the end one that can stand nowhere."""
        if self.place == len(self.text):
            return NO_BYTE
        return self.text[self.place]

    def at_digit(self):
        """Whether a digit comes next."""
        return ZERO <= self.ahead() <= NINE

    def skip(self, byte):
        """Goes past a byte that must come next."""
        if self.ahead() != byte:
            raise TextFault(self.place)
        self.place += 1


def scan_digits(scanner, most):
    """A number of one to so many digits, the first no 0."""
    start = scanner.place
    if not scanner.at_digit() or scanner.ahead() == ZERO:
        raise TextFault(start)
    number = 0
    while scanner.at_digit():
        if scanner.place - start == most:
            raise TextFault(scanner.place)
        number = number * 10 + scanner.ahead() - ZERO
        scanner.place += 1
    return number


def scan_unsigned(scanner):
    """A number without a - before it."""
    if scanner.ahead() != ZERO:
        return scan_digits(scanner, MOST_DIGITS_OF_NUMBER)
    scanner.place += 1
    if scanner.at_digit():
        raise TextFault(scanner.place)
    return 0


def scan_number(scanner):
    """A number that may be below 0; three digits keep it within -999 to 999."""
    if scanner.ahead() != MINUS:
        return scan_unsigned(scanner)
    scanner.place += 1
    return -scan_digits(scanner, MOST_DIGITS_OF_NUMBER)


def scan_fraction(scanner):
    """A whole number or n/d, as a pair in lowest terms."""
    start = scanner.place
    n = scan_number(scanner)
    if scanner.ahead() != SLASH:
        return (n, 1)
    scanner.place += 1
    d = scan_unsigned(scanner)
    if not LEAST_DIVISOR <= d <= MOST_DIVISOR or common_factor(n, d) != 1:
        raise TextFault(start)
    return (n, d)


def scan_name(scanner):
    """A name, as the pair that a line keeps."""
    if not LETTER_A <= scanner.ahead() <= LETTER_Z:
        raise TextFault(scanner.place)
    letter = scanner.ahead() - LETTER_A
    scanner.place += 1
    if not scanner.at_digit():
        return (letter, 0)
    return (letter, scan_digits(scanner, MOST_DIGITS_OF_NAME))
