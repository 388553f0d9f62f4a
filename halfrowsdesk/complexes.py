"""Complex products: of each part's two products only the first is rounded by itself."""

from halfrowsdesk.arithmetic import multiply, multiply_and_add
from halfrowsdesk.halves import negated


def two_products(way, a, b, c, d):
    """a b, rounded, then with c d added, rounded once more: what both steps raise, and the half."""
    first = multiply(way, a, b)
    last = multiply_and_add(way, c, d, first[1])
    return (first[0] | last[0], last[1])


def real_part(way, x_real, x_imaginary, y_real, y_imaginary):
    return two_products(way, x_real, y_real, negated(x_imaginary), y_imaginary)


def imaginary_part(way, x_real, x_imaginary, y_real, y_imaginary):
    return two_products(way, x_imaginary, y_real, x_real, y_imaginary)
