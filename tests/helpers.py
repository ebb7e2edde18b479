"""What the tests calculate for themselves, in the plainest way."""

import unittest
from itertools import product as all_lists

ORDERS = [11, 23, 29, 41, 53, 83, 89, 113, 131, 173, 179, 191, 233, 239, 251, 281,
          293, 359, 419, 431, 443, 491, 509, 593, 641, 653, 659, 683, 719, 743,
          761, 809, 911, 953, 1013]


def squares(q):
    """The elements of q, ascending: all squares modulo p."""
    p = 2 * q + 1
    return sorted({x * x % p for x in range(1, p)})


def multiplied(q, base, times):
    """The product of so many factors, all of them the base."""
    result = 1
    for _ in range(times):
        result = result * base % (2 * q + 1)
    return result


def multiplied_all(q, bases, exponents):
    """The product of all bases[i] ** exponents[i], one factor after another."""
    result = 1
    for base, exponent in zip(bases, exponents):
        result = result * multiplied(q, base, exponent) % (2 * q + 1)
    return result


def exponent_lists(q, length):
    """All lists of so many exponents."""
    return [list(exponents) for exponents in all_lists(range(q), repeat=length)]


def hand_coin(seed, n, text):
    """The coin, written down from the rule once more."""
    m = 2 ** 31 - 1
    h = (seed * 31 + n * 1009 + 11) % m
    for character in text:
        h = (h * 263 + ord(character) + 1) % m
    for _ in "123":
        h = (h * 48271 + 12345) % m
    return (h // 1000) % 10 ** 6


def changed(values, at, value):
    """A tuple or list with another value at one place."""
    other = list(values)
    other[at] = value
    return type(values)(other)


def hand_call(q, text, choice, pairs):
    """The call, by the rule and by multiplying; traces are found by trying."""
    p = 2 * q + 1
    numbers = [len(choice)]
    for count, equations in choice:
        numbers += [count, len(equations)]
        for y, bases in equations:
            numbers += [y, *bases]
    for (count, equations), (c, answers) in zip(choice, pairs):
        for y, bases in equations:
            factor, goal = multiplied(q, y, c), multiplied_all(q, bases, answers)
            numbers += [t for t in range(1, p) if (t * factor - goal) % p == 0]
    joined = "paper " + text + "".join(" " + str(number) for number in numbers)
    return 1 + hand_coin(0, q, joined) % (q - 1)


def hand_paper(q, text, choice, index, values, noise):
    """The paper, by the rule."""
    others = sum(c for k, (c, _) in enumerate(noise) if k != index)
    c = (hand_call(q, text, choice, noise) - others) % q
    answers = tuple((a + c * x) % q for a, x in zip(noise[index][1], values))
    return changed(noise, index, (c, answers))


class ErrorCase(unittest.TestCase):

    def check_raises(self, error, function, *arguments):
        """The error itself is raised, and none of a class below it."""
        with self.assertRaises(error) as raised:
            function(*arguments)
        self.assertIs(type(raised.exception), error)
