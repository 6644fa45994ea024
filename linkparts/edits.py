"""Renames a line of a linkage, and cuts lines off."""

from linkparts.bounds import MOST_OF_NAME, check_line, is_letter
from linkparts.lines import Line, count_word, find_name
from linkparts.refusals import NameTaken, NotALinkage, WrongNumber


def renamed(lines, i, letter, number):
    """The lines, line i with another name."""
    if not is_letter(letter) or number > MOST_OF_NAME:
        raise WrongNumber()
    check_line(lines, i)
    name = (letter, number)
    holder = find_name(lines, name)
    if holder is not None and holder != i:
        raise NameTaken()
    line = lines[i]
    # Other lines name it by its number, so they need no change.
    return lines[:i] + [Line(line.word, name, line.hangs_on, line.numbers)] + lines[i + 1:]


def kept_numbers(lines, i):
    """The numbers of the lines that are left without line i, each with the number it has then."""
    kept = {}
    for k, line in enumerate(lines):
        if k != i and all([end in kept for end in line.hangs_on]):
            kept[k] = len(kept)
    return kept


def cut_off(lines, i):
    """The lines without line i and all that hang on it, on these too."""
    check_line(lines, i)
    kept = kept_numbers(lines, i)
    left = []
    for k in kept:
        line = lines[k]
        left.append(Line(line.word, line.name, tuple([kept[end] for end in line.hangs_on]), line.numbers))
    if count_word(left, "crank") == 0:
        raise NotALinkage()
    return left
