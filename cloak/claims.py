"""Claims to know exponents, their traces, and what two answers to one trace tell."""

from cloak.errors import BadPaper, NotAllowed
from cloak.groups import check_element, is_exponent, power, product, product_of_powers, quotient

MAX_UNKNOWNS = 8
MAX_EQUATIONS = 6


def check_claim(q, claim):
    """Raise NotAllowed if the argument is not a claim."""
    count, equations = claim
    if count < 0 or count > MAX_UNKNOWNS:
        raise NotAllowed("a claim has from 0 to 8 unknowns")
    if len(equations) < 1 or len(equations) > MAX_EQUATIONS:
        raise NotAllowed("a claim has from 1 to 6 equations")
    for y, bases in equations:
        if len(bases) != count:
            raise NotAllowed("an equation has one base for each unknown")
        check_element(q, y)
        for base in bases:
            check_element(q, base)


def are_values(q, claim, values):
    """True if the tuple of integers is values for the claim, otherwise False."""
    return len(values) == claim[0] and all(is_exponent(q, value) for value in values)


def check_values(q, claim, values):
    """Raise NotAllowed if the tuple of integers is not values for the claim."""
    if not are_values(q, claim, values):
        raise NotAllowed("these are not values for the claim")


def holds(q, claim, values):
    """True if the claim holds for the values, otherwise False."""
    check_values(q, claim, values)
    return all(product_of_powers(q, bases, values) == y for y, bases in claim[1])


def claim_numbers(claim):
    """The list of the numbers of the claim."""
    count, equations = claim
    numbers = [count, len(equations)]
    for y, bases in equations:
        numbers.append(y)
        numbers.extend(bases)
    return numbers


def traces(q, claim, c, answers):
    """The list of the traces of the claim for an exponent and answers."""
    if not is_exponent(q, c):
        raise NotAllowed("c is not an exponent")
    check_values(q, claim, answers)
    return [product(q, product_of_powers(q, bases, answers), power(q, y, -c))
            for y, bases in claim[1]]


def known_values(q, claim, first, second):
    """The values for which the claim holds, from two pairs with the same traces."""
    c, answers = first
    d, others = second
    same = traces(q, claim, c, answers) == traces(q, claim, d, others)
    # That the exponents are equal is told ahead of traces that differ.
    if c == d:
        raise NotAllowed("both pairs have the same exponent")
    if not same:
        raise BadPaper("the traces of the pairs differ")
    return tuple([quotient(q, one - other, c - d) for one, other in zip(answers, others)])
