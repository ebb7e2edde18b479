"""People, and their marks."""

from cloak.errors import NotAllowed
from cloak.groups import check_exponent, product_of_powers

_GREATEST_AGE = 4
_GREATEST_ZONE = 4


def check_person(setup, person):
    """Raise NotAllowed if one of the three integers is out of range."""
    q, _ = setup
    number, age, zone = person
    check_exponent(q, number)
    if age < 0 or age > _GREATEST_AGE or zone < 0 or zone > _GREATEST_ZONE:
        raise NotAllowed("the age and the zone of a person are from 0 to 4")


def mark_of(setup, person):
    """The mark of a usable person."""
    check_person(setup, person)
    q, bases = setup
    mark = product_of_powers(q, bases[1:], (1, *person))
    if mark == 1:
        raise NotAllowed("the mark of a usable person is not 1")
    return mark
