"""Polynomials over exponents, whose value at 0 is a secret, and the shares of them."""

from cloak.errors import NotAllowed
from cloak.groups import check_exponent, is_exponent, raised
from cloak.linear import solutions

MAX_POINTS = 10


def check_polynomial(q, polynomial):
    """Raise NotAllowed if the list is not a polynomial."""
    if len(polynomial) < 1 or len(polynomial) > MAX_POINTS:
        raise NotAllowed("a polynomial has from 1 to 10 coefficients")
    for coefficient in polynomial:
        check_exponent(q, coefficient)


def check_places(places):
    """Raise NotAllowed if the integers are not different ones from 1 to 10."""
    if any(x < 1 or x > MAX_POINTS for x in places):
        raise NotAllowed("a place is from 1 to 10")
    if len(set(places)) != len(places):
        raise NotAllowed("a place is there only once")


def check_points(q, points):
    """Raise NotAllowed if the list is not one of points; it may have none and any number."""
    check_places([x for x, _ in points])
    if not all(is_exponent(q, value) for _, value in points):
        raise NotAllowed("the value of a point is an exponent")


def value_at(q, polynomial, x):
    """The value of the polynomial at an integer."""
    check_polynomial(q, polynomial)
    value = 0
    for coefficient in reversed(polynomial):
        value = (value * x + coefficient) % q
    return value


def shares_of(q, polynomial, places):
    """The list of the shares of the polynomial at the places, in their order."""
    check_polynomial(q, polynomial)
    check_places(places)
    return [(x, value_at(q, polynomial, x)) for x in places]


def polynomial_of(q, points):
    """The polynomial with as many coefficients as there are points, which leads through them."""
    if len(points) < 1 or len(points) > MAX_POINTS:
        raise NotAllowed("there are from 1 to 10 points")
    check_points(q, points)
    return leading_through(q, points)


def leading_through(q, points):
    """The same, for any points with different x modulo q."""
    rows = [[raised(q, x, degree) for degree in range(len(points))] for x, _ in points]
    polynomial, _ = solutions(q, len(points), rows, [value for _, value in points])
    return polynomial


def secret_of(q, points):
    """The secret of the polynomial that leads through the points."""
    return polynomial_of(q, points)[0]


def explain_shares(q, points, secret):
    """The polynomial with one coefficient more than there are points, with this secret."""
    if len(points) >= MAX_POINTS:
        raise NotAllowed("there are from 0 to 9 points")
    check_points(q, points)
    check_exponent(q, secret)
    return leading_through(q, [(0, secret), *points])
