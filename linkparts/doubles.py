"""The double (IEEE 754 binary64) that a quotient of two numbers of surds.py is rounded to.

All is counted in units of 2^-1075, half the least double above 0: then the
bits of a double that's rounded off are at least one, however small it is.
"""

from linkparts.enclosures import enclosed, enclosed_roots
from linkparts.surds import minus, sign_of, times_whole

NEAREST = 0
NOT_ABOVE = 1
NOT_BELOW = 2
UNIT_BITS = 1075
KEPT_BITS = 53
FRACTION_BITS = 52
SIGN_BIT = 63
# Enough for one trial but where a divisor is very near to 0.
FIRST_TRIAL_BITS = 1200


def units_between(top, divisor, squares, bits):
    """How many whole units the quotient has at least and at most, and whether surely more than the least.

    None if the bits are too few to tell the two but for one unit.
    """
    roots = enclosed_roots(squares, bits)
    above = enclosed(top, roots, bits)
    below = enclosed(divisor, roots, bits)
    if below[0] <= 0:
        return None
    least = divmod(max(above[0], 0) << UNIT_BITS, below[1])
    most = (above[1] << UNIT_BITS) // below[0]
    if most - least[0] > 1:
        return None
    return (least[0], most, least[1] > 0)


def sign_beyond(top, divisor, squares, units):
    """1, 0 or -1, as the exact quotient is more than so many units, just these or fewer."""
    return sign_of(minus(times_whole(1 << UNIT_BITS, top), times_whole(units, divisor)), squares)


def counted_units(top, divisor, squares):
    """How many whole units a quotient above 0 has, and whether it has more than these."""
    bits = FIRST_TRIAL_BITS
    between = units_between(top, divisor, squares, bits)
    while between is None:
        bits = 2 * bits
        between = units_between(top, divisor, squares, bits)
    least = between[0]
    most = between[1]
    if least == most and between[2]:
        return (least, True)
    # A whole number of units lies within what's known: only the exact number tells on which side it is.
    beyond_most = sign_beyond(top, divisor, squares, most)
    if beyond_most >= 0:
        return (most, beyond_most > 0)
    # What's known may begin just at the number itself.
    return (least, between[2] or sign_beyond(top, divisor, squares, least) > 0)


def is_rounded_away(kept, rest, half, more, negative, mode):
    """Whether the kept bits are rounded away from 0; rest, and more than it if told, is rounded off."""
    if mode == NEAREST:
        return rest > half or rest == half and (more or kept % 2 == 1)
    if mode == NOT_ABOVE:
        return negative and (rest > 0 or more)
    if mode == NOT_BELOW:
        return not negative and (rest > 0 or more)
    return False


def rounded_bits(units, more, negative, mode):
    """The double's bits of so many units, and of more than these if told."""
    dropped = max(units.bit_length() - KEPT_BITS, 1)
    kept = units >> dropped
    rest = units - (kept << dropped)
    if is_rounded_away(kept, rest, 1 << (dropped - 1), more, negative, mode):
        kept += 1
    # The first kept bit is not stored: added, it makes the exponent one more; where it's 0 that's right too.
    stored = ((dropped - 1) << FRACTION_BITS) + kept
    return stored + (1 << SIGN_BIT) if negative else stored


def double_bits(top, divisor, squares, mode):
    """The 64 bits of the double that top / divisor is rounded to; the divisor is above 0."""
    sign = sign_of(top, squares)
    if sign == 0:
        return 0
    counted = counted_units(times_whole(sign, top), divisor, squares)
    return rounded_bits(counted[0], counted[1], sign < 0, mode)
