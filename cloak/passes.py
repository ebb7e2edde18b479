"""People, and their marks."""

from cloak.errors import NotAllowed
from cloak.groups import check_exponent, product_of_powers
from cloak.pairs import check_pair


def check_person(setup, person):
    """Raise NotAllowed if one of the three integers is out of range."""
    q, _ = setup
    check_exponent(q, person[0])
    check_pair(person[1:])


def mark_of(setup, person):
    """The mark of a usable person."""
    check_person(setup, person)
    q, bases = setup
    mark = product_of_powers(q, bases[1:], (1, *person))
    if mark == 1:
        raise NotAllowed("the mark of a usable person is not 1")
    return mark
