"""Sessions of an issuer and a person, from the key to the ticket."""

from cloak.blindings import blinded, challenge_within
from cloak.errors import BadPaper, NotAllowed
from cloak.groups import check_exponent, power, product, quotient
from cloak.passes import mark_of


def check_secret(q, secret):
    """Raise NotAllowed if the integer is not a secret of an issuer."""
    check_exponent(q, secret)
    if secret == 0:
        raise NotAllowed("a secret is not 0")


def key_of(setup, secret):
    """The key of the issuer with the secret."""
    q, bases = setup
    check_secret(q, secret)
    return power(q, bases[0], secret)


def offer_of(setup, secret, person, w):
    """The offer of the issuer who has drawn w, to a person."""
    q, bases = setup
    check_secret(q, secret)
    check_exponent(q, w)
    mark = mark_of(setup, person)
    return power(q, mark, secret), power(q, bases[0], w), power(q, mark, w)


def request_of(setup, person, offer, blinding):
    """What the person sends upon an offer."""
    q, _ = setup
    numbers = blinded(setup, person, offer, blinding)
    return quotient(q, challenge_within(q, numbers), blinding[1])


def grant_of(setup, secret, w, c):
    """What the issuer who has drawn w sends upon a request."""
    q, _ = setup
    check_secret(q, secret)
    check_exponent(q, w)
    check_exponent(q, c)
    return (w + c * secret) % q


def ticket_of(setup, key, person, offer, blinding, r):
    """The ticket that the person has, if what the issuer sent is right."""
    q, _ = setup
    c = request_of(setup, person, offer, blinding)
    check_exponent(q, r)
    if not is_grant(setup, key, person, offer, c, r):
        raise BadPaper("the issuer did not send what belongs to its key and its offer")
    _, u, v, _ = blinding
    return (*blinded(setup, person, offer, blinding), (u * r + v) % q)


def is_grant(setup, key, person, offer, c, r):
    """True if both checks hold of what the issuer sent, otherwise False."""
    q, bases = setup
    z, a, b = offer
    return (power(q, bases[0], r) == product(q, a, power(q, key, c))
            and power(q, mark_of(setup, person), r) == product(q, b, power(q, z, c)))
