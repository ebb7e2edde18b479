"""Entries of the logs of gates: their texts, their order, and reading them.

An entry is a tuple (epoch, moment, gate, pairs, ticket, spend, paper).
"""

from cloak.coins import joined_text
from cloak.errors import BadForm
from cloak.forms import is_number, is_rising
from cloak.pairs import AGES, ZONES, pair_at, place_of
from cloak.purse import EPOCHS
from cloak.showings import is_gate_name

_MOST_DIGITS = 4
_MOST_DIGITS_OF_MOMENT = 6

# Where the numbers stand that come behind the gate's name in the text of an entry.
_EPOCH = 0
_MOMENT = 1
_MANY = 2
_INDEXES = 3
_NUMBERS_OF_TICKET = 6
_NUMBERS_OF_SPEND = 5
_NUMBERS_OF_CLAIM = 3


def entry_text(entry):
    """The text of the entry."""
    epoch, moment, gate, pairs, ticket, spend, paper = entry
    d, answers = spend
    numbers = [epoch, moment, len(pairs), *[place_of(pair) for pair in pairs], *ticket, d, *answers]
    for c, others in paper:
        numbers.append(c)
        numbers.extend(others)
    return joined_text(gate, numbers)


def place_in_log(entry):
    """What entries are ordered by."""
    epoch, moment, gate, _, _, _, _ = entry
    return epoch, moment, gate, entry_text(entry)


def in_order(entries):
    """The list of the entries, in their order."""
    return sorted(entries, key=place_in_log)


def read_entries(text):
    """The list of the entries whose texts the image of a log has."""
    if text == "":
        return []
    entries = [read_entry(part) for part in text.split(";")]
    if not is_rising([place_in_log(entry) for entry in entries]):
        raise BadForm("the entries of a log are different ones, in their order")
    return entries


def read_entry(text):
    """The entry with this text."""
    words = text.split(" ")
    gate = words[0]
    if not is_gate_name(gate):
        raise BadForm("an entry begins with the name of a gate")
    numbers = read_numbers(words[1:])
    pairs = read_pairs(numbers)
    behind_pairs = numbers[_INDEXES + len(pairs):]
    ticket = tuple(behind_pairs[:_NUMBERS_OF_TICKET])
    d, *rest = behind_pairs[_NUMBERS_OF_TICKET:]
    answers = tuple(rest[:_NUMBERS_OF_SPEND - 1])
    return (numbers[_EPOCH], numbers[_MOMENT], gate, pairs, ticket, (d, answers),
            read_paper(rest[_NUMBERS_OF_SPEND - 1:]))


def read_numbers(words):
    """The list of the numbers of an entry, as many as belong to its number of pairs."""
    if len(words) <= _MANY:
        raise BadForm("an entry has more numbers")
    for at, word in enumerate(words):
        if not is_number(word, _MOST_DIGITS_OF_MOMENT if at == _MOMENT else _MOST_DIGITS):
            raise BadForm("a number of an entry is too long, or not written as such")
    numbers = [int(word) for word in words]
    wanted = _INDEXES + _NUMBERS_OF_TICKET + _NUMBERS_OF_SPEND
    if len(numbers) != wanted + (1 + _NUMBERS_OF_CLAIM) * numbers[_MANY]:
        raise BadForm("an entry has one part of a paper for each pair")
    if numbers[_EPOCH] >= EPOCHS:
        raise BadForm("an epoch is from 0 to 2")
    return numbers


def read_pairs(numbers):
    """The tuple of the pairs of an entry with these numbers."""
    indexes = numbers[_INDEXES:_INDEXES + numbers[_MANY]]
    if not indexes or not is_rising(indexes) or indexes[-1] >= AGES * ZONES:
        raise BadForm("an entry has a set of pairs that is not empty")
    return tuple([pair_at(index) for index in indexes])


def read_paper(numbers):
    """The paper with these numbers, three for each claim."""
    starts = range(0, len(numbers), _NUMBERS_OF_CLAIM)
    return tuple([(numbers[at], (numbers[at + 1], numbers[at + 2])) for at in starts])
