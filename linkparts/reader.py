"""Makes a linkage of its text, or tells the text's fault.

Each name and number is looked at as soon as it has been read, before the
byte behind it: which of two faults is told depends on this order.
"""

from linkparts.bounds import MOST_DYADS, MOST_LINES, is_length
from linkparts.lines import Line, count_word, find_name, is_fixed, share_piece
from linkparts.refusals import TextFault, TooLong
from linkparts.scanner import Scanner, scan_fraction, scan_name, scan_number

MOST_BYTES = 2048
BLANK = 32
LINE_END = 10
WORDS = ("pin", "crank", "dyad", "rider")


def read_word(scanner):
    """A line's first word; no two of them begin alike."""
    for word in WORDS:
        if scanner.ahead() == ord(word[0]):
            for sign in word:
                scanner.skip(ord(sign))
            return word
    raise TextFault(scanner.place)


def read_new_name(scanner, lines):
    """A blank and a name that no line before has."""
    scanner.skip(BLANK)
    start = scanner.place
    name = scan_name(scanner)
    if find_name(lines, name) is not None:
        raise TextFault(start)
    return name


def read_point(scanner, lines, may_be):
    """A blank and the name of a line before; may_be asks whether it may be that one."""
    scanner.skip(BLANK)
    start = scanner.place
    k = find_name(lines, scan_name(scanner))
    if k is None or not may_be(k):
        raise TextFault(start)
    return k


def read_length(scanner):
    """A blank and how long a bar is."""
    scanner.skip(BLANK)
    start = scanner.place
    length = scan_number(scanner)
    if not is_length(length):
        raise TextFault(start)
    return length


def read_fraction(scanner):
    """A blank and a rider's u or v."""
    scanner.skip(BLANK)
    return scan_fraction(scanner)


def read_place(scanner, lines):
    """A pin's x and y, where no pin is yet."""
    scanner.skip(BLANK)
    start = scanner.place
    x = scan_number(scanner)
    scanner.skip(BLANK)
    y = scan_number(scanner)
    if any([line.word == "pin" and line.numbers == (x, y) for line in lines]):
        raise TextFault(start)
    return (x, y)


def read_pin(scanner, lines):
    """What follows the word pin."""
    name = read_new_name(scanner, lines)
    return Line("pin", name, (), read_place(scanner, lines))


def read_crank(scanner, lines):
    """What follows the word crank."""
    name = read_new_name(scanner, lines)
    p = read_point(scanner, lines, lambda k: is_fixed(lines, k))
    return Line("crank", name, (p,), (read_length(scanner),))


def read_dyad(scanner, lines):
    """What follows the word dyad."""
    name = read_new_name(scanner, lines)
    p = read_point(scanner, lines, lambda k: True)
    p_length = read_length(scanner)
    q = read_point(scanner, lines, lambda k: k != p)
    q_length = read_length(scanner)
    return Line("dyad", name, (p, q), (p_length, q_length))


def read_rider(scanner, lines):
    """What follows the word rider."""
    name = read_new_name(scanner, lines)
    p = read_point(scanner, lines, lambda k: True)
    q = read_point(scanner, lines, lambda k: k != p and share_piece(lines, p, k))
    u = read_fraction(scanner)
    v = read_fraction(scanner)
    return Line("rider", name, (p, q), (u, v))


READ_BEHIND_WORD = {"pin": read_pin, "crank": read_crank, "dyad": read_dyad, "rider": read_rider}


def may_follow(lines, word):
    """Whether one more line that begins with that word may stand behind those lines.

    A dyad of rank 4 would be a fourth dyad at least, so no rank is looked at.
    """
    if word == "crank" and count_word(lines, word) == 1:
        return False
    if word == "dyad" and count_word(lines, word) == MOST_DYADS:
        return False
    return len(lines) < MOST_LINES


def read_line(scanner, lines):
    """The line that comes next, behind those lines."""
    start = scanner.place
    word = read_word(scanner)
    if not may_follow(lines, word):
        raise TextFault(start)
    read_behind_word = READ_BEHIND_WORD[word]
    line = read_behind_word(scanner, lines)
    scanner.skip(LINE_END)
    return line


def read_linkage(text):
    """The lines of the linkage that a text tells."""
    if len(text) > MOST_BYTES:
        raise TooLong()
    scanner = Scanner(text)
    lines = []
    while scanner.place < len(text):
        lines.append(read_line(scanner, lines))
    if count_word(lines, "crank") == 0:
        raise TextFault(len(text))
    return lines
