"""The calls on one object, one behind another, and what they answer."""

from linkparts.edits import cut_off, renamed
from linkparts.figures import point_bits, told_sides
from linkparts.moves import enlarged, shifted, turned
from linkparts.parts import with_copier, with_inversor
from linkparts.reader import read_linkage
from linkparts.refusals import NoLinkageYet, Refusal
from linkparts.tracers import circle_numbers, round_linkage, straight_linkage
from linkparts.writer import write_linkage

TAKE = 0


class Bench:
    """The object that calls are made on: it keeps one linkage, at first none."""

    def __init__(self):
        self.lines = None

    def held(self):
        """The linkage's lines; refuses if there's none yet."""
        if self.lines is None:
            raise NoLinkageYet()
        return self.lines

    def keep(self, lines):
        """Keeps a linkage from now on, and answers how many lines it has."""
        self.lines = lines
        return [len(lines)]


def answer_take(bench, text):
    """Call 0."""
    return bench.keep(read_linkage(text))


def answer_print(bench, given):
    """Call 1: how many bytes stands there twice, as the answer and before the list."""
    text = write_linkage(bench.held())
    return [len(text), len(text)] + text


def answer_copier(bench, given):
    """Call 2."""
    lines = bench.held()
    return bench.keep(with_copier(lines, given[0], given[1], given[2], given[3], given[4], given[5], given[6]))


def answer_inversor(bench, given):
    """Call 3."""
    return bench.keep(with_inversor(bench.held(), given[0], given[1], given[2], given[3], given[4]))


def answer_shift(bench, given):
    """Call 4."""
    return bench.keep(shifted(bench.held(), given[0], given[1]))


def answer_quarter(bench, given):
    """Call 5."""
    return bench.keep(turned(bench.held()))


def answer_scale(bench, given):
    """Call 6."""
    return bench.keep(enlarged(bench.held(), given[0]))


def answer_rename(bench, given):
    """Call 7."""
    return bench.keep(renamed(bench.held(), given[0], given[1], given[2]))


def answer_cut(bench, given):
    """Call 8."""
    return bench.keep(cut_off(bench.held(), given[0]))


def answer_straight(bench, given):
    """Call 9."""
    return bench.keep(straight_linkage(given[0], given[1], given[2]))


def answer_round(bench, given):
    """Call 10."""
    how_many = bench.keep(round_linkage(given[0], given[1], given[2], given[3]))
    circle = circle_numbers(given[0], given[1], given[2], given[3])
    return how_many + [len(circle)] + circle


def answer_figures(bench, given):
    """Call 11: how many sides stands there twice, as the answer and before the list."""
    sides = told_sides(bench.held(), given[0], given[1])
    return [len(sides), len(sides)] + sides


def answer_point(bench, given):
    """Call 12."""
    bits = point_bits(bench.held(), given[0], given[1], given[2], given[3], given[4])
    return [0, len(bits)] + bits


ANSWER = {
    0: answer_take,
    1: answer_print,
    2: answer_copier,
    3: answer_inversor,
    4: answer_shift,
    5: answer_quarter,
    6: answer_scale,
    7: answer_rename,
    8: answer_cut,
    9: answer_straight,
    10: answer_round,
    11: answer_figures,
    12: answer_point,
}
HOW_MANY_GIVEN = {1: 0, 2: 7, 3: 5, 4: 2, 5: 0, 6: 1, 7: 3, 8: 1, 9: 3, 10: 4, 11: 2, 12: 5}


def answer_call(bench, number, given):
    """All that one call answers, a refusal too."""
    answer = ANSWER[number]
    try:
        return answer(bench, given)
    except Refusal as refusal:
        return refusal.answered


def answers(calls):
    """For each call how many numbers it answers, then these."""
    bench = Bench()
    answered = []
    place = 0
    while place < len(calls):
        number = calls[place]
        start = place + 1
        if number == TAKE:
            start = place + 2
            place = start + calls[place + 1]
        else:
            place = start + HOW_MANY_GIVEN[number]
        answer = answer_call(bench, number, calls[start:place])
        answered.append(len(answer))
        answered.extend(answer)
    return answered
