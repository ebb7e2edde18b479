"""Blindings, and what a person makes of an offer with one of them."""

from cloak.coins import challenge_of
from cloak.errors import NotAllowed
from cloak.groups import check_element, check_exponent, power, product_of_powers
from cloak.passes import mark_of


def check_blinding(q, blinding):
    """Raise NotAllowed if a number of the blinding is out of range."""
    s, u, v, covers = blinding
    for number in (s, u, v, *covers):
        check_exponent(q, number)
    if s == 0 or u == 0:
        raise NotAllowed("the first two numbers of a blinding are not 0")


def check_offer(q, offer):
    """Raise NotAllowed if an offer has a number that is no element, or z = 1."""
    for number in offer:
        check_element(q, number)
    if offer[0] == 1:
        raise NotAllowed("the first number of an offer is not 1")


def blinded(setup, person, offer, blinding):
    """The first five numbers of the ticket that the person gets by the offer."""
    q, bases = setup
    mark = mark_of(setup, person)
    check_offer(q, offer)
    check_blinding(q, blinding)
    z, a, b = offer
    s, u, v, covers = blinding
    first = power(q, mark, s)
    return (first,
            product_of_powers(q, bases[1:], covers),
            power(q, z, s),
            product_of_powers(q, (a, bases[0]), (u, v)),
            product_of_powers(q, (b, first), (s * u, v)))


def challenge_within(q, numbers):
    """The inner challenge of a ticket with these first five numbers."""
    return challenge_of(q, "ticket", numbers)
