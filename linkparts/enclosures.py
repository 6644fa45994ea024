"""Whole numbers between which a number of surds.py lies.

An enclosure is a pair low, high: the number, 2^bits times, is not below low
and not above high. The more bits, the narrower it is.
"""


def root_below(number):
    """The greatest whole number whose square isn't above that one."""
    if number == 0:
        return 0
    # Begun from above, each step comes nearer until the root is reached.
    root = 1 << ((number.bit_length() + 1) // 2)
    nearer = (root + number // root) // 2
    while nearer < root:
        root = nearer
        nearer = (root + number // root) // 2
    return root


def product(x, root, bits):
    """The enclosure of a number times a root, of their enclosures."""
    low = x[0] * (root[0] if x[0] >= 0 else root[1])
    high = x[1] * (root[1] if x[1] >= 0 else root[0])
    return (low >> bits, -((-high) >> bits))


def enclosed(x, roots, bits):
    """The enclosure of a number, of the enclosures of its roots."""
    if len(x) == 1:
        return (x[0] << bits, x[0] << bits)
    half = len(x) // 2
    without = enclosed(x[:half], roots, bits)
    behind = product(enclosed(x[half:], roots, bits), roots[half.bit_length() - 1], bits)
    return (without[0] + behind[0], without[1] + behind[1])


def enclosed_roots(squares, bits):
    """The enclosures of the roots of squares, each of which is above 0."""
    roots = []
    for square in squares:
        under = enclosed(square, roots, bits)
        low = root_below(max(under[0], 0) << bits)
        high = root_below(under[1] << bits) + 1
        roots.append((low, high))
    return roots
