"""Commitments to exponents, and the claims that are made of them."""

from cloak.choices import MAX_CLAIMS
from cloak.errors import NotAllowed
from cloak.groups import (
    check_element, check_exponent, logarithm, power, product, product_of_powers,
)


def commit(setup, value, blind):
    """The commitment to the value with the blind."""
    q, bases = setup
    check_exponent(q, value)
    check_exponent(q, blind)
    return product_of_powers(q, bases[:2], (value, blind))


def blind_of(setup, commitment, value):
    """The blind with which an element is the commitment to the value."""
    q, bases = setup
    return logarithm(q, bases[1], blinding_part(setup, commitment, value))


def claim_of(setup, commitment):
    """The claim that the commitment is known."""
    q, bases = setup
    check_element(q, commitment)
    return 2, ((commitment, bases[:2]),)


def value_claim(setup, commitment, value):
    """The claim that the commitment is one to the value."""
    _, bases = setup
    return 1, ((blinding_part(setup, commitment, value), (bases[1],)),)


def value_choice(setup, commitment, values):
    """The choice that the commitment is one to one of the values."""
    if len(values) < 1 or len(values) > MAX_CLAIMS:
        raise NotAllowed("there are from 1 to 25 values")
    return tuple([value_claim(setup, commitment, value) for value in values])


def blinding_part(setup, commitment, value):
    """What is left of the commitment without the part of the value."""
    q, bases = setup
    check_exponent(q, value)
    return product(q, commitment, power(q, bases[0], -value))
