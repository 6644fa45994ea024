"""The calls on one object, one behind another, and what they answer."""

from linkparts.moves import enlarged, shifted, turned
from linkparts.parts import with_copier, with_inversor
from linkparts.reader import read_linkage
from linkparts.refusals import NoLinkageYet, Refusal
from linkparts.writer import write_linkage

TAKE = 0


class Bench:
    """The object that calls are made on: it keeps one linkage, at first none."""

    def __init__(self):
        self.lines = None

    def held(self):
        """The linkage's lines; refuses if there's none yet."""
        if self.lines is None:
            raise NoLinkageYet()
        return self.lines

    def keep(self, lines):
        """Keeps a linkage from now on, and answers how many lines it has."""
        self.lines = lines
        return [len(lines)]


def answer_take(bench, text):
    """Call 0."""
    return bench.keep(read_linkage(text))


def answer_print(bench, given):
    """Call 1: how many bytes stands there twice, as the answer and before the list."""
    text = write_linkage(bench.held())
    return [len(text), len(text)] + text


def answer_copier(bench, given):
    """Call 2."""
    lines = bench.held()
    return bench.keep(with_copier(lines, given[0], given[1], given[2], given[3], given[4], given[5], given[6]))


def answer_inversor(bench, given):
    """Call 3."""
    return bench.keep(with_inversor(bench.held(), given[0], given[1], given[2], given[3], given[4]))


def answer_shift(bench, given):
    """Call 4."""
    return bench.keep(shifted(bench.held(), given[0], given[1]))


def answer_quarter(bench, given):
    """Call 5."""
    return bench.keep(turned(bench.held()))


def answer_scale(bench, given):
    """Call 6."""
    return bench.keep(enlarged(bench.held(), given[0]))


ANSWER = {
    0: answer_take,
    1: answer_print,
    2: answer_copier,
    3: answer_inversor,
    4: answer_shift,
    5: answer_quarter,
    6: answer_scale,
}
HOW_MANY_GIVEN = {1: 0, 2: 7, 3: 5, 4: 2, 5: 0, 6: 1}


def answer_call(bench, number, given):
    """All that one call answers, a refusal too."""
    answer = ANSWER[number]
    try:
        return answer(bench, given)
    except Refusal as refusal:
        return refusal.answered


def answers(calls):
    """For each call how many numbers it answers, then these."""
    bench = Bench()
    answered = []
    place = 0
    while place < len(calls):
        number = calls[place]
        start = place + 1
        if number == TAKE:
            start = place + 2
            place = start + calls[place + 1]
        else:
            place = start + HOW_MANY_GIVEN[number]
        answer = answer_call(bench, number, calls[start:place])
        answered.append(len(answer))
        answered.extend(answer)
    return answered
