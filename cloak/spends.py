"""Spends of tickets, and whom two spends of one ticket expose."""

from cloak.blindings import check_blinding
from cloak.errors import BadPaper, Missing
from cloak.groups import (
    check_exponent, is_element, is_exponent, power, product, product_of_powers, quotient,
)
from cloak.passes import check_person


def spend_of(setup, person, blinding, d):
    """The spend of the person with the blinding for a challenge."""
    q, _ = setup
    check_person(setup, person)
    check_blinding(q, blinding)
    check_exponent(q, d)
    s, _, _, covers = blinding
    return d, tuple([(cover + d * s * part) % q for cover, part in zip(covers, (1, *person))])


def is_spend(setup, ticket, spend):
    """True if the spend is accepted for the ticket, otherwise False."""
    q, bases = setup
    d, answers = spend
    first, second = ticket[:2]
    if not all(is_exponent(q, number) for number in (d, *answers)):
        return False
    if not is_element(q, first) or not is_element(q, second):
        return False
    return product_of_powers(q, bases[1:], answers) == product(q, power(q, first, d), second)


def exposed(setup, ticket, first, second):
    """The three numbers that two accepted spends of the ticket expose."""
    q, _ = setup
    if not is_spend(setup, ticket, first) or not is_spend(setup, ticket, second):
        raise BadPaper("a spend is not accepted for the ticket")
    if not are_apart(first, second):
        raise Missing("the spends have the same challenge or the same first answer")
    lead, *rest = differences(first, second)
    return tuple([quotient(q, difference, lead) for difference in rest])


def is_exposure(setup, ticket, first, second, numbers):
    """True if the three numbers are those that both spends expose, otherwise False."""
    q, _ = setup
    if not is_spend(setup, ticket, first) or not is_spend(setup, ticket, second):
        return False
    if not are_apart(first, second) or not all(is_exponent(q, number) for number in numbers):
        return False
    lead, *rest = differences(first, second)
    return all((number * lead - difference) % q == 0 for number, difference in zip(numbers, rest))


def are_apart(first, second):
    """True if two spends differ in their challenges and in their first answers."""
    return first[0] != second[0] and first[1][0] != second[1][0]


def differences(first, second):
    """The answers of the first spend less those of the second one."""
    return [answer - other for answer, other in zip(first[1], second[1])]
