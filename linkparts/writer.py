"""Writes a linkage's text."""

LETTERS = "ABCDEFGHIJKLMNOPQRSTUVWXYZ"


def name_text(name):
    """A name as it stands in a text."""
    letter = LETTERS[name[0]]
    return letter if name[1] == 0 else letter + str(name[1])


def fraction_text(fraction):
    """A rider's u or v as it stands in a text."""
    n = fraction[0]
    d = fraction[1]
    return str(n) if d == 1 else f"{n}/{d}"


def words_of_line(lines, line):
    """The words of one of the lines, in order."""
    points = [name_text(lines[k].name) for k in line.hangs_on]
    head = [line.word, name_text(line.name)]
    if line.word == "rider":
        return head + points + [fraction_text(fraction) for fraction in line.numbers]
    if line.word == "pin":
        return head + [str(number) for number in line.numbers]
    for point, length in zip(points, line.numbers):
        head.append(point)
        head.append(str(length))
    return head


def write_linkage(lines):
    """The bytes of the linkage's text."""
    text = "".join([" ".join(words_of_line(lines, line)) + "\n" for line in lines])
    return [ord(sign) for sign in text]
