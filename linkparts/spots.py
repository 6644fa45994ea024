"""The points of a figure, one behind another, and where they are.

Nothing is divided on the way: numbers with roots stay short so. Each line
brings a factor above 0, and a point's x and y are divided by the factors of
its own line and of all lines that it hangs on, each taken once.
"""

from linkparts.surds import minus, plus, square_of, times, times_whole, with_root


class Spot:
    """Where a point is: x and y, numbers of surds.py, divided by factors of lines.

    divided_by: a number whose bit k tells whether line k's factor is one of these.
    """

    def __init__(self, x, y, divided_by):
        self.x = x
        self.y = y
        self.divided_by = divided_by


class Figure:
    """The first points of a figure; it is never changed, only made longer.

    spots: where they are. factors: their lines' factors. squares: what stands
    under the roots that all these hold. bits: on which side each dyad stands.
    """

    def __init__(self, spots, factors, squares, bits):
        self.spots = spots
        self.factors = factors
        self.squares = squares
        self.bits = bits


class Way:
    """The way (dx, dy) from a spot, all divided by the same factors."""

    def __init__(self, origin, dx, dy):
        self.origin = origin
        self.dx = dx
        self.dy = dy


class Meeting:
    """How two circles lie: they meet where aside leads to, taken as many times as the root of square tells.

    On the left that's aside as it is, on the right turned round. They meet if
    square is above 0, miss if it is below; if it is 0 they touch at aside's
    origin, but where their centres are one: then factor, the dyad's, is 0.
    """

    def __init__(self, square, aside, factor):
        self.square = square
        self.aside = aside
        self.factor = factor


def product_of_factors(figure, divided_by):
    """What a point with those bits is divided by."""
    product = (1,)
    for k, factor in enumerate(figure.factors):
        if (divided_by >> k) & 1 == 1:
            product = times(product, factor, figure.squares)
    return product


def brought_to(figure, spot, divided_by):
    """The same spot, divided by more factors."""
    missing = product_of_factors(figure, divided_by ^ spot.divided_by)
    return Spot(times(spot.x, missing, figure.squares), times(spot.y, missing, figure.squares), divided_by)


def way_between(figure, p, q):
    """The way from point p to point q."""
    divided_by = figure.spots[p].divided_by | figure.spots[q].divided_by
    origin = brought_to(figure, figure.spots[p], divided_by)
    end = brought_to(figure, figure.spots[q], divided_by)
    return Way(origin, minus(end.x, origin.x), minus(end.y, origin.y))


def with_spot(figure, spot, factor):
    """The figure and one point more, which is divided by its own line's factor too."""
    own = Spot(spot.x, spot.y, spot.divided_by | (1 << len(figure.spots)))
    return Figure(figure.spots + [own], figure.factors + [factor], figure.squares, figure.bits)


def with_pin(figure, x, y):
    """The figure and a fixed pin."""
    return with_spot(figure, Spot((x,), (y,), 0), (1,))


def with_crank(figure, p, length, place):
    """The figure and the crank's pin at a place (a, b)."""
    a = place[0]
    b = place[1]
    factor = b * b + a * a
    centre = figure.spots[p]
    unit = times_whole(length, product_of_factors(figure, centre.divided_by))
    x = plus(times_whole(factor, centre.x), times_whole(b * b - a * a, unit))
    y = plus(times_whole(factor, centre.y), times_whole(2 * a * b, unit))
    return with_spot(figure, Spot(x, y, centre.divided_by), (factor,))


def with_rider(figure, p, q, u, v):
    """The figure and the point that is u times the way from p to q on, and v times to its left."""
    way = way_between(figure, p, q)
    origin = way.origin
    factor = u[1] * v[1]
    along = u[0] * v[1]
    left = v[0] * u[1]
    dx = minus(times_whole(along, way.dx), times_whole(left, way.dy))
    dy = plus(times_whole(along, way.dy), times_whole(left, way.dx))
    x = plus(times_whole(factor, origin.x), dx)
    y = plus(times_whole(factor, origin.y), dy)
    return with_spot(figure, Spot(x, y, origin.divided_by), (factor,))


def meeting(figure, p, q, p_length, q_length):
    """How the circles about p and q lie, so large.

    With g the square of the way from p to q, w what all is divided by and
    f = g + (p_length^2 - q_length^2) w^2 they meet f / 2g of that way on, and
    then the root of 4 p_length^2 g w^2 - f^2, over 2g, of it to its left or right.
    """
    squares = figure.squares
    way = way_between(figure, p, q)
    origin = way.origin
    unit = square_of(product_of_factors(figure, origin.divided_by), squares)
    gap = plus(square_of(way.dx, squares), square_of(way.dy, squares))
    foot = plus(gap, times_whole(p_length * p_length - q_length * q_length, unit))
    square = minus(times_whole(4 * p_length * p_length, times(gap, unit, squares)), square_of(foot, squares))
    factor = times_whole(2, gap)
    x = plus(times(factor, origin.x, squares), times(foot, way.dx, squares))
    y = plus(times(factor, origin.y, squares), times(foot, way.dy, squares))
    middle = Spot(x, y, origin.divided_by)
    return Meeting(square, Way(middle, times_whole(-1, way.dy), way.dx), factor)


def with_touching(figure, found, bit):
    """The figure and the pin of a dyad whose circles touch."""
    longer = with_spot(figure, found.aside.origin, found.factor)
    return Figure(longer.spots, longer.factors, longer.squares, longer.bits + (bit,))


def with_meeting(figure, found, bit):
    """The figure and the pin of a dyad whose circles meet, on the left (0) or right (1)."""
    how_many = len(figure.squares)
    middle = found.aside.origin
    turned = 1 if bit == 0 else -1
    x = with_root(middle.x, times_whole(turned, found.aside.dx), how_many)
    y = with_root(middle.y, times_whole(turned, found.aside.dy), how_many)
    longer = with_spot(figure, Spot(x, y, middle.divided_by), found.factor)
    return Figure(longer.spots, longer.factors, longer.squares + (found.square,), longer.bits + (bit,))
