"""Points under and over the line through 0 and the point p to the right, q up."""

from betweenprimes.calls import COLUMN, OVER, REFUSED, ROW, UNDER
from betweenprimes.primes import half


def under_at(p, q, x):
    """How many points under the line have x to the right."""
    # No point is on the line, and with x up to the half of p the line
    # stays below the half of q: so nothing is to be cut off on top.
    return x * q // p


def column(p, q, k):
    """How many points under the line have k to the right, if there are such points."""
    if k < 1 or k > half(p):
        return [REFUSED]
    return [under_at(p, q, k)]


def under(p, q):
    """How many points are under the line."""
    return [sum([under_at(p, q, x) for x in range(1, half(p) + 1)])]


def inside(p, q, x, y):
    """1 if the point is under the line, 2 if it's over it."""
    if x < 1 or x > half(p) or y < 1 or y > half(q):
        return [REFUSED]
    return [1 if y * p < x * q else 2]


def point_answer(p, q, number, given):
    """The answer to column, row, under, over or inside."""
    # With p and q exchanged, right is up, and what is over the line is under it.
    if number == COLUMN:
        return column(p, q, given[0])
    if number == ROW:
        return column(q, p, given[0])
    if number == UNDER:
        return under(p, q)
    if number == OVER:
        return under(q, p)
    return inside(p, q, given[0], given[1])
