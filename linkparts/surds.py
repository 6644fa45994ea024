"""Numbers that hold square roots, exact.

A number is a tuple of 1, 2, 4 or 8 whole numbers. Of one it is that whole
number; else it is its first half, a number, and its second half, a number
too, times a root: the first root for a tuple of 2, the second for one of 4,
the third for one of 8. What stands under each root is a number above 0 that
holds only the roots before it; squares is the tuple of what stands there.
"""


def sign_of_whole(number):
    """1, 0 or -1."""
    if number == 0:
        return 0
    return 1 if number > 0 else -1


def lifted(x, size):
    """The same number, as a tuple of that size."""
    return x + (0,) * (size - len(x))


def first_half(x):
    """What stands in a number without its last root."""
    return x[:len(x) // 2]


def second_half(x):
    """What stands in a number times its last root."""
    return x[len(x) // 2:]


def under_last_root(x, squares):
    """What stands under the last root that a number of more than one may hold."""
    return squares[len(x).bit_length() - 2]


def plus(x, y):
    """x + y."""
    size = max(len(x), len(y))
    return tuple([one + other for one, other in zip(lifted(x, size), lifted(y, size))])


def times_whole(number, x):
    """A whole number times x."""
    return tuple([number * one for one in x])


def minus(x, y):
    """x - y."""
    return plus(x, times_whole(-1, y))


def times(x, y, squares):
    """x times y."""
    if len(x) < len(y):
        return times(y, x, squares)
    if len(x) == 1:
        return (x[0] * y[0],)
    a = first_half(x)
    b = second_half(x)
    if len(y) < len(x):
        return times(a, y, squares) + times(b, y, squares)
    c = first_half(y)
    d = second_half(y)
    without = plus(times(a, c, squares), times(times(b, d, squares), under_last_root(x, squares), squares))
    return without + plus(times(a, d, squares), times(b, c, squares))


def square_of(x, squares):
    """x times x."""
    return times(x, x, squares)


def with_root(x, y, how_many):
    """x and y times the root behind the first so many, which x and y hold at most."""
    half = 1 << how_many
    return lifted(x, half) + lifted(y, half)


def sign_of(x, squares):
    """1, 0 or -1, as x is above 0, 0 or below it.

    It is right even where a root is in truth a number of the roots before
    it: nothing but each root's being above 0 is made use of.
    """
    if len(x) == 1:
        return sign_of_whole(x[0])
    a = first_half(x)
    b = second_half(x)
    sign_of_a = sign_of(a, squares)
    sign_of_b = sign_of(b, squares)
    if sign_of_b == 0 or sign_of_a == sign_of_b:
        return sign_of_a
    if sign_of_a == 0:
        return sign_of_b
    # The halves pull against one another: the one with the greater square wins.
    square_of_root_part = times(square_of(b, squares), under_last_root(x, squares), squares)
    return sign_of_a * sign_of(minus(square_of(a, squares), square_of_root_part), squares)
