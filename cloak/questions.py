"""Questions about the pair of a person: reading and writing them, and who satisfies them.

The functions that read a part of a question take the list of all parts, the
place where theirs begins, and the number of levels around it. They return the
tree and the place behind it. The list ends with _END, so that there is a part
at every place that they look at.
"""

from cloak.errors import BadForm
from cloak.pairs import all_pairs, check_pair

MAX_QUESTION = 300
MAX_LEVELS = 20

_LETTERS = "abcdefghijklmnopqrstuvwxyz"
_DIGITS = ("0", "1", "2", "3", "4", "5", "6", "7", "8", "9")
_MARKS = ("(", ")", "+", "-", "<", ">")
_LONG_MARKS = ("<=", "==", "!=", ">=")
_RELATIONS = ("<", "<=", "==", "!=", ">", ">=")
_END = ""

# How often the age and the zone count in each side.
_SIDES = {
    "age": (1, 0),
    "zone": (0, 1),
    "age + zone": (1, 1),
    "age - zone": (1, -1),
    "zone - age": (-1, 1),
}
_PARTS_OF_LONG_SIDE = 3

# A part of a tree stands in parentheses where a tighter one is wanted.
_OR = 1
_AND = 2
_UNIT = 3


def read_question(text):
    """The tree of the question."""
    if len(text) > MAX_QUESTION:
        raise BadForm("a question has at most 300 characters")
    parts = [*parts_of(text), _END]
    tree, at = read_either(parts, 0, 0)
    if parts[at] != _END:
        raise BadForm("there is something behind the question")
    return tree


def parts_of(text):
    """The list of the words, marks and digits of a text."""
    parts = []
    at = 0
    while at < len(text):
        end = end_of_part(text, at)
        if text[at] != " ":
            parts.append(text[at:end])
        at = end
    return parts


def end_of_part(text, at):
    """The place behind the space, or the longest part, that begins at a place."""
    if text[at] in _LETTERS:
        return end_of_word(text, at)
    if text[at:at + 2] in _LONG_MARKS:
        return at + 2
    if text[at] == " " or text[at] in _MARKS or text[at] in _DIGITS:
        return at + 1
    raise BadForm("a question has no such character")


def end_of_word(text, at):
    """The place behind the word that begins at a place."""
    end = at
    while end < len(text) and text[end] in _LETTERS:
        end += 1
    return end


def read_either(parts, at, levels):
    """Read what the grammar calls `question`."""
    tree, at = read_both(parts, at, levels)
    while parts[at] == "or":
        second, at = read_both(parts, at + 1, levels)
        tree = ("or", tree, second)
    return tree, at


def read_both(parts, at, levels):
    """Read what the grammar calls `both`."""
    tree, at = read_unit(parts, at, levels)
    while parts[at] == "and":
        second, at = read_unit(parts, at + 1, levels)
        tree = ("and", tree, second)
    return tree, at


def read_unit(parts, at, levels):
    """Read what the grammar calls `unit`."""
    part = parts[at]
    if part in ("any", "none"):
        return (part,), at + 1
    if part not in ("not", "("):
        return read_test(parts, at)
    if levels == MAX_LEVELS:
        raise BadForm("there are more than 20 levels within one another")
    if part == "not":
        tree, at = read_unit(parts, at + 1, levels + 1)
        return ("not", tree), at
    tree, at = read_either(parts, at + 1, levels + 1)
    return tree, behind(parts, at, (")",))


def read_test(parts, at):
    """Read what the grammar calls `test`."""
    side = side_at(parts, at)
    at += len(side.split())
    relation = parts[at]
    at = behind(parts, at, _RELATIONS)
    sign = 1
    if parts[at] == "-":
        sign = -1
        at += 1
    end = behind(parts, at, _DIGITS)
    return ("is", side, relation, sign * int(parts[at])), end


def side_at(parts, at):
    """The side of a test that begins at a place."""
    side = " ".join(parts[at:at + _PARTS_OF_LONG_SIDE])
    if side not in _SIDES:
        side = parts[at]
    if side not in _SIDES:
        raise BadForm("here a question has something to test")
    return side


def behind(parts, at, wanted):
    """The place behind a part that is one of those that are wanted."""
    if parts[at] not in wanted:
        raise BadForm("a part of a question is missing")
    return at + 1


def question_text(tree):
    """The plain text of the tree."""
    kind = tree[0]
    if kind == "is":
        _, side, relation, number = tree
        return f"{side} {relation} {number}"
    if kind == "not":
        return f"not {part_text(tree[1], _UNIT)}"
    # Rows are grouped from the left: only a second part of the same kind is told apart.
    if kind == "and":
        return f"{part_text(tree[1], _AND)} and {part_text(tree[2], _UNIT)}"
    if kind == "or":
        return f"{part_text(tree[1], _OR)} or {part_text(tree[2], _AND)}"
    return kind


def part_text(tree, least):
    """The plain text of a part, in parentheses if it is not as tight as wanted."""
    text = question_text(tree)
    if tightness(tree) < least:
        return f"({text})"
    return text


def tightness(tree):
    """How tightly the parts of a tree are held together without parentheses."""
    if tree[0] == "or":
        return _OR
    if tree[0] == "and":
        return _AND
    return _UNIT


def set_of(tree):
    """The list of the pairs that satisfy the tree, in their order."""
    return [pair for pair in all_pairs() if satisfies(tree, pair)]


def are_same(first, second):
    """True if the sets of both trees are equal, otherwise False."""
    return set_of(first) == set_of(second)


def implies(first, second):
    """True if each pair that satisfies the first tree satisfies the second one."""
    return all(satisfies(second, pair) for pair in set_of(first))


def holds(tree, pair):
    """True if the pair satisfies the tree, otherwise False."""
    check_pair(pair)
    return satisfies(tree, pair)


def satisfies(tree, pair):
    """True if the pair satisfies the tree, otherwise False."""
    kind = tree[0]
    if kind == "is":
        _, side, relation, number = tree
        return is_related(value_of(side, pair), relation, number)
    if kind == "not":
        return not satisfies(tree[1], pair)
    if kind == "and":
        return satisfies(tree[1], pair) and satisfies(tree[2], pair)
    if kind == "or":
        return satisfies(tree[1], pair) or satisfies(tree[2], pair)
    return kind == "any"


def value_of(side, pair):
    """The value of the side of a test for a pair."""
    age, zone = pair
    ages, zones = _SIDES[side]
    return ages * age + zones * zone


def is_related(value, relation, number):
    """True if the relation holds between two integers, otherwise False."""
    if relation == "<":
        return value < number
    if relation == "<=":
        return value <= number
    if relation == "==":
        return value == number
    if relation == "!=":
        return value != number
    if relation == ">":
        return value > number
    return value >= number
