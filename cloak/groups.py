"""Orders, and the elements, exponents and setups that belong to them.

No error message shows a number that was passed: an integer may have more
digits than Python is willing to write out.
"""

from cloak.coins import coin
from cloak.errors import NotAllowed

LEAST_ORDER = 11
GREATEST_ORDER = 1013

_BASES_OF_SETUP = 5
_FIRST_ELEMENT = 4


def check_order(q):
    """Raise NotAllowed if the integer is not an order."""
    # The range comes first, so that no great number is tried for divisors.
    if q < LEAST_ORDER or q > GREATEST_ORDER:
        raise NotAllowed("an order is from 11 to 1013")
    if not is_prime(q) or not is_prime(2 * q + 1):
        raise NotAllowed("an order and one more than its double are prime numbers")


def is_prime(number):
    """True if the integer is a prime number, otherwise False."""
    divisor = 2
    while divisor * divisor <= number:
        if number % divisor == 0:
            return False
        divisor += 1
    return number > 1


def is_exponent(q, value):
    """True if the integer is one from 0 to q - 1, otherwise False."""
    return 0 <= value < q


def check_exponent(q, value):
    """Raise NotAllowed if the integer is not one from 0 to q - 1."""
    if not is_exponent(q, value):
        raise NotAllowed("this is not an exponent from 0 to q - 1")


def is_element(q, value):
    """True if the integer is an element, otherwise False."""
    p = 2 * q + 1
    # By Euler's criterion just the squares have 1 as their q-th power.
    return 0 < value < p and raised(p, value, q) == 1


def check_element(q, value):
    """Raise NotAllowed if the integer is not an element."""
    if not is_element(q, value):
        raise NotAllowed("this is not an element")


def raised(modulus, base, exponent):
    """The power by a modulus; the exponent is not below 0."""
    result = 1
    square = base % modulus
    while exponent > 0:
        if exponent % 2 == 1:
            result = result * square % modulus
        square = square * square % modulus
        exponent = exponent // 2
    return result


def power(q, base, exponent):
    """The power of an element; the exponent is any integer."""
    check_element(q, base)
    return raised(2 * q + 1, base, exponent % q)


def product(q, first, second):
    """The product of two elements."""
    check_element(q, first)
    check_element(q, second)
    return first * second % (2 * q + 1)


def product_of_powers(q, bases, exponents):
    """The product of all bases[i] ** exponents[i]."""
    if len(bases) != len(exponents):
        raise NotAllowed("there are not as many bases as exponents")
    result = 1
    for base, exponent in zip(bases, exponents):
        result = result * power(q, base, exponent) % (2 * q + 1)
    return result


def inverse(q, value):
    """The element whose product with the value is 1."""
    return power(q, value, -1)


def logarithm(q, base, value):
    """The exponent x from 0 to q - 1 with base ** x = value."""
    check_element(q, base)
    check_element(q, value)
    if base == 1:
        raise NotAllowed("there are no logarithms to the base 1")
    exponent = 0
    reached = 1
    while reached != value:
        reached = reached * base % (2 * q + 1)
        exponent += 1
    return exponent


def quotient(q, first, second):
    """The exponent x with x * second = first modulo q."""
    if second % q == 0:
        raise NotAllowed("the second exponent is 0 modulo the order")
    # By Fermat's theorem the power q - 2 is what gives 1 with the second one.
    return first * raised(q, second, q - 2) % q


def setup_of(q, seed):
    """The setup that is drawn by a seed."""
    return q, tuple([drawn_base(q, seed, at) for at in range(_BASES_OF_SETUP)])


def drawn_base(q, seed, at):
    """The base number `at` of the setup of a seed."""
    return power(q, _FIRST_ELEMENT, 1 + coin(seed, at, "base") % (q - 1))


def check_setup(setup):
    """Raise NotAllowed if the argument is not a setup."""
    q, bases = setup
    check_order(q)
    if len(bases) != _BASES_OF_SETUP:
        raise NotAllowed("a setup has five bases")
    for base in bases:
        check_element(q, base)
        if base == 1:
            raise NotAllowed("a base of a setup is not 1")
