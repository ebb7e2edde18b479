"""Coins, challenges, and the texts that challenges are taken of."""

_MODULUS = 2147483647
_LAST_ROUNDS = 3


def coin(seed, n, text):
    """The coin of two integers and a text, from 0 to 999999."""
    state = (seed * 31 + n * 1009 + 11) % _MODULUS
    for sign in text:
        state = (state * 263 + ord(sign) + 1) % _MODULUS
    for _ in range(_LAST_ROUNDS):
        state = (state * 48271 + 12345) % _MODULUS
    return state // 1000 % 1000000


def challenge(q, text):
    """The challenge of a text, an exponent from 1 to q - 1."""
    return 1 + coin(0, q, text) % (q - 1)


def joined_text(word, numbers):
    """The word and the integers, each integer behind a single space."""
    return word + "".join([f" {number}" for number in numbers])


def challenge_of(q, word, numbers):
    """The challenge of the joined text."""
    return challenge(q, joined_text(word, numbers))
