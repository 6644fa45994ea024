"""Makes linkages whose tracer goes straight on, or round."""

from linkparts.bounds import common_factor, is_length
from linkparts.lines import Line
from linkparts.parts import with_inversor
from linkparts.refusals import WrongNumber

A = (0, 0)
B = (1, 0)
C = (2, 0)
LETTER_D = 3


def tracer_linkage(e, r, a, b):
    """A pin at (0, 0), one at (e, 0) with a crank about it, and an inversor of the first and the crank."""
    base = [
        Line("pin", A, (), (0, 0)),
        Line("pin", B, (), (e, 0)),
        Line("crank", C, (1,), (r,)),
    ]
    return with_inversor(base, 0, 2, a, b, LETTER_D)


def straight_linkage(r, a, b):
    """The linkage whose tracer stays on a straight line."""
    if not is_length(r):
        raise WrongNumber()
    return tracer_linkage(r, r, a, b)


def round_linkage(e, r, a, b):
    """The linkage whose tracer stays on a circle."""
    if not is_length(e) or not is_length(r) or e == r:
        raise WrongNumber()
    return tracer_linkage(e, r, a, b)


def lowest(n, d):
    """n / d as a pair in lowest terms, the second number above 0."""
    factor = common_factor(n, abs(d))
    if d < 0:
        factor = -factor
    return [n // factor, d // factor]


def circle_numbers(e, r, a, b):
    """Of the circle on which a round one's tracer stays the centre's x, then the radius."""
    k = a * a - b * b
    d = e * e - r * r
    return lowest(k * e, d) + lowest(k * r, abs(d))
