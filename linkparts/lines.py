"""The lines of a linkage, and what they are to one another."""


class Line:
    """One line of a linkage; it is never changed, only replaced by another.

    word: "pin", "crank", "dyad" or "rider".
    name: a pair, the letter (0 to 25) and the number behind it (0: none).
    hangs_on: the numbers of the lines P, or P and Q (of a pin: none).
    numbers: of a pin x and y, of a crank r, of a dyad p and q, of a rider
    u and v, each as a pair n, d in lowest terms.
    """

    def __init__(self, word, name, hangs_on, numbers):
        self.word = word
        self.name = name
        self.hangs_on = hangs_on
        self.numbers = numbers


def with_numbers(line, numbers):
    """The same line with other numbers."""
    return Line(line.word, line.name, line.hangs_on, numbers)


def count_word(lines, word):
    """How many lines begin with that word."""
    return len([line for line in lines if line.word == word])


def find_name(lines, name):
    """The number of the line of that name, or None."""
    for k, line in enumerate(lines):
        if line.name == name:
            return k
    return None


def is_pin(lines, k):
    """Whether line k is a fixed pin, and so an end of the ground."""
    return lines[k].word == "pin"


def is_fixed(lines, k):
    """Whether point k never moves: a pin, or a rider of the ground."""
    if lines[k].word == "rider":
        return all([is_pin(lines, end) for end in lines[k].hangs_on])
    return is_pin(lines, k)


def has_bar_to(lines, k, end):
    """Whether line k brings a bar with it whose other end is that one."""
    return lines[k].word in ("crank", "dyad") and end in lines[k].hangs_on


def share_piece(lines, p, q):
    """Whether two different points are ends of one piece."""
    if is_pin(lines, p) and is_pin(lines, q):
        return True
    return has_bar_to(lines, p, q) or has_bar_to(lines, q, p)
