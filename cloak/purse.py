"""Purses of tickets: they give out no ticket twice, as their register cannot be set back."""

from cloak.coins import joined_text
from cloak.errors import BadForm, Down, Full, Missing, NotAllowed
from cloak.forms import is_number, is_rising

EPOCHS = 3
MAX_HELD = 12

_NO_END = -1
_WORD = "ticket"
_NUMBERS_IN_IMAGE = 15
_MOST_DIGITS = 4


def check_epoch(epoch):
    """Raise NotAllowed if the integer is not an epoch."""
    if epoch < 0 or epoch >= EPOCHS:
        raise NotAllowed("an epoch is from 0 to 2")


class Register:
    """A count for each epoch that can only be raised."""

    def __init__(self):
        self._counts = [0] * EPOCHS
        self._power = _NO_END

    def count(self, epoch):
        """The count for the epoch."""
        check_epoch(epoch)
        return self._counts[epoch]

    def raise_to(self, epoch, count):
        """Raise the count for the epoch."""
        if count <= self.count(epoch):
            raise NotAllowed("a count can only be raised")
        if self._power == 0:
            raise Down("the register has no power left")
        if self._power != _NO_END:
            self._power -= 1
        self._counts[epoch] = count

    def supply(self, raises):
        """Set the number of raises that can still be made, -1 for no end."""
        if raises < _NO_END:
            raise NotAllowed("the power is a number of raises, or -1")
        self._power = raises


class Purse:
    """Tickets of one person. A row of a purse is (epoch, number, ticket, blinding)."""

    def __init__(self, counter):
        self._counter = counter
        self._rows = []

    def put(self, epoch, ticket, blinding):
        """Add a ticket with its blinding."""
        least = self._counter.count(epoch)
        if self.size() >= MAX_HELD:
            raise Full("a purse has at most 12 tickets")
        after = [number + 1 for other, number, _, _ in self._rows if other == epoch]
        self.keep((epoch, max([least, *after]), ticket, blinding))

    def keep(self, row):
        """Add a row as it is."""
        self._rows.append(row)

    def take(self, epoch):
        """Give out the first usable ticket of the epoch, with its blinding."""
        rows = self.usable_rows(epoch)
        if not rows:
            raise Missing("no ticket of the epoch is usable")
        _, number, ticket, blinding = min(rows, key=number_of)
        # The count comes first: what raises Down gives out nothing.
        self._counter.raise_to(epoch, number + 1)
        return ticket, blinding

    def left(self, epoch):
        """How many tickets of the epoch are usable."""
        return len(self.usable_rows(epoch))

    def usable_rows(self, epoch):
        """The rows of the usable tickets of the epoch, in the order in which they were put."""
        least = self._counter.count(epoch)
        return [row for row in self._rows if row[0] == epoch and row[1] >= least]

    def size(self):
        """The number of tickets."""
        return len(self._rows)

    def image(self):
        """The text from which the purse can be loaded."""
        return ";".join([row_text(row) for row in self._rows])


def number_of(row):
    """The number of the ticket of a row."""
    return row[1]


def row_text(row):
    """The part of an image for a row."""
    epoch, number, ticket, (s, u, v, covers) = row
    return joined_text(_WORD, [epoch, number, *ticket, s, u, v, *covers])


def read_row(text):
    """The row that a part of an image stands for."""
    words = text.split(" ")
    if words[0] != _WORD or len(words) != 1 + _NUMBERS_IN_IMAGE:
        raise BadForm("a ticket in an image is one word and 15 numbers")
    if not all(is_number(word, _MOST_DIGITS) for word in words[1:]):
        raise BadForm("a number in an image has 1 to 4 digits")
    numbers = [int(word) for word in words[1:]]
    s, u, v = numbers[8:11]
    return numbers[0], numbers[1], tuple(numbers[2:8]), (s, u, v, tuple(numbers[11:]))


def check_rows(rows):
    """Raise BadForm if the rows are not those of a purse."""
    if len(rows) > MAX_HELD:
        raise BadForm("a purse has at most 12 tickets")
    if any(row[0] >= EPOCHS for row in rows):
        raise BadForm("an epoch is from 0 to 2")
    for epoch in range(EPOCHS):
        if not is_rising([row[1] for row in rows if row[0] == epoch]):
            raise BadForm("the numbers of an epoch rise")


def load_purse(counter, text):
    """The purse of a register with this image."""
    purse = Purse(counter)
    if text != "":
        rows = [read_row(part) for part in text.split(";")]
        check_rows(rows)
        for row in rows:
            purse.keep(row)
    return purse
