"""Pairs of an age and a zone, and sets of them."""

from cloak.errors import NotAllowed
from cloak.forms import is_rising

AGES = 5
ZONES = 5


def all_pairs():
    """The list of all pairs, in their order."""
    return [(age, zone) for age in range(AGES) for zone in range(ZONES)]


def is_pair(pair):
    """True if the tuple of two integers is a pair, otherwise False."""
    age, zone = pair
    return 0 <= age < AGES and 0 <= zone < ZONES


def check_pair(pair):
    """Raise NotAllowed if the tuple of two integers is not a pair."""
    if not is_pair(pair):
        raise NotAllowed("the age and the zone of a pair are from 0 to 4")


def place_of(pair):
    """The index of a pair by its rule, whatever integers the pair has."""
    age, zone = pair
    return ZONES * age + zone


def index_of(pair):
    """The index of the pair."""
    check_pair(pair)
    return place_of(pair)


def pair_at(index):
    """The pair with the index."""
    if index < 0 or index >= AGES * ZONES:
        raise NotAllowed("the index of a pair is from 0 to 24")
    return index // ZONES, index % ZONES


def check_set(pairs):
    """Raise NotAllowed if the list of tuples of two integers is not a set."""
    if not is_rising([index_of(pair) for pair in pairs]):
        raise NotAllowed("the pairs of a set are different ones, in their order")


def set_text(pairs):
    """The text of the set."""
    check_set(pairs)
    if not pairs:
        return "none"
    if len(pairs) == AGES * ZONES:
        return "any"
    zones = [[zone for other, zone in pairs if other == age] for age in range(AGES)]
    return " or ".join([age_text(age, those) for age, those in enumerate(zones) if those])


def age_text(age, zones):
    """The part of the text of a set for an age, with the zones that come up with it."""
    if len(zones) == ZONES:
        return f"age == {age}"
    tests = " or ".join([f"zone == {zone}" for zone in zones])
    if len(zones) == 1:
        return f"age == {age} and {tests}"
    return f"age == {age} and ({tests})"
