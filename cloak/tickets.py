"""Tickets: checking and writing them, and finding who could have got one."""

from cloak.blindings import challenge_within
from cloak.errors import BadForm, BadPaper, NotAllowed
from cloak.forms import is_number
from cloak.groups import is_element, is_exponent, logarithm, power, product, quotient
from cloak.issuing import request_of, ticket_of
from cloak.passes import mark_of
from cloak.spends import spend_of

_NUMBERS = 6
_MOST_DIGITS = 4


def inner_challenge(setup, ticket):
    """The inner challenge of the first five numbers of the ticket."""
    q, _ = setup
    return challenge_within(q, ticket[:5])


def is_ticket(setup, key, ticket):
    """True if the six numbers are a ticket of the key, otherwise False."""
    q, bases = setup
    first, _, z1, a1, b1, r1 = ticket
    if not all(is_element(q, number) for number in ticket[:5]):
        return False
    if first == 1 or not is_exponent(q, r1):
        return False
    c1 = inner_challenge(setup, ticket)
    return (power(q, bases[0], r1) == product(q, a1, power(q, key, c1))
            and power(q, first, r1) == product(q, b1, power(q, z1, c1)))


def ticket_text(ticket):
    """The six numbers in decimal digits, separated by single spaces."""
    return " ".join([str(number) for number in ticket])


def read_ticket(text):
    """The six numbers with this text."""
    words = text.split(" ")
    if len(words) != _NUMBERS or not all(is_number(word, _MOST_DIGITS) for word in words):
        raise BadForm("a ticket is written as six numbers of 1 to 4 digits")
    return tuple([int(word) for word in words])


def explain_ticket(setup, key, record, ticket, spend):
    """The blinding with which the record leads to the ticket and the spend, or None."""
    person, offer, c, r = record
    # What the steps of a session would refuse leads to nothing.
    try:
        blinding = only_blinding(setup, record, ticket, spend)
        sent = request_of(setup, person, offer, blinding)
        got = ticket_of(setup, key, person, offer, blinding, r)
        spent = spend_of(setup, person, blinding, spend[0])
    except (NotAllowed, BadPaper):
        return None
    if sent != c or got != ticket or spent != spend:
        return None
    return blinding


def only_blinding(setup, record, ticket, spend):
    """The only blinding with which the record may lead to the ticket and the spend."""
    q, _ = setup
    person, _, c, r = record
    d, answers = spend
    s = logarithm(q, mark_of(setup, person), ticket[0])
    u = quotient(q, inner_challenge(setup, ticket), c)
    v = (ticket[5] - u * r) % q
    covers = [(answer - d * s * part) % q for answer, part in zip(answers, (1, *person))]
    return s, u, v, tuple(covers)
