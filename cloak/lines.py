"""The lines of a script."""

from cloak.forms import is_number
from cloak.showings import is_gate_name

_LONGEST_PERSON = 4
_MOST_DIGITS = 3

# What stands behind each first word: N is a person, G a gate, K a number, Q a question.
_FORMS = {
    "person": "NKKK",
    "gate": "G",
    "issue": "N",
    "epoch": "",
    "left": "N",
    "show": "NGQ",
    "again": "NGQ",
    "save": "N",
    "back": "N",
    "power": "NK",
    "merge": "GG",
    "exposed": "G",
    "crowd": "G",
}


def read_command(line):
    """The tuple of the words of a line, or None if it has no form of a line."""
    if line == "":
        return ()
    first = line.split(" ")[0]
    if first not in _FORMS:
        return None
    form = _FORMS[first]
    # The last part takes the rest of the line: only a question may have spaces.
    parts = line.split(" ", len(form))
    if parts[0] != first or len(parts) != 1 + len(form):
        return None
    if not all(has_kind(part, kind) for part, kind in zip(parts[1:], form)):
        return None
    return (first, *[int(part) if kind == "K" else part for part, kind in zip(parts[1:], form)])


def has_kind(part, kind):
    """True if a part of a line is what the sign of a form stands for, otherwise False."""
    if kind == "N":
        return is_gate_name(part) and len(part) <= _LONGEST_PERSON
    if kind == "G":
        return is_gate_name(part)
    return kind == "Q" or is_number(part, _MOST_DIGITS)
