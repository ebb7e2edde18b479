"""Gates: they check showings and log them, and logs of gates that work apart can be merged."""

from cloak.entries import entry_text, in_order, read_entries
from cloak.errors import NotAllowed, Used
from cloak.purse import check_epoch
from cloak.showings import check_showing, is_gate_name
from cloak.spends import are_apart, exposed, is_spend


class Gate:
    """A gate with its name and its log."""

    def __init__(self, name):
        if not is_gate_name(name):
            raise NotAllowed("the name of a gate has from 1 to 6 small letters")
        self._name = name
        self._entries = []

    def name(self):
        """The name of the gate."""
        return self._name

    def moment(self):
        """The moment for which a showing is checked next."""
        return 1 + max([entry[1] for entry in self._entries if entry[2] == self._name], default=-1)

    def enter(self, setup, key, epoch, pairs, showing):
        """Check a showing and log it; raise Used if its ticket is in the log already."""
        check_epoch(epoch)
        moment = self.moment()
        check_showing(setup, key, (self._name, moment), pairs, showing)
        ticket, spend, paper = showing
        was_there = any(entry[4] == ticket for entry in self._entries)
        self.gather([(epoch, moment, self._name, tuple(pairs), ticket, spend, paper)])
        if was_there:
            raise Used("the ticket was shown before")

    def merge(self, other):
        """Add all entries of another gate's log."""
        self.gather(other.log())

    def gather(self, entries):
        """Add those of the entries that are not in the log."""
        new = [entry for entry in entries if entry not in self._entries]
        self._entries = in_order([*self._entries, *new])

    def log(self):
        """The list of the entries, in their order."""
        return list(self._entries)

    def exposures(self, setup):
        """Whom the tickets of the log expose: a list of (numbers, ticket, first, second)."""
        shown = [(entry[4], entry[5]) for entry in self._entries
                 if is_spend(setup, entry[4], entry[5])]
        found = []
        for at, (ticket, first) in enumerate(shown):
            seconds = [spend for other, spend in shown[at + 1:]
                       if other == ticket and are_apart(first, spend)]
            if seconds and ticket not in [row[1] for row in found]:
                numbers = exposed(setup, ticket, first, seconds[0])
                found.append((numbers, ticket, first, seconds[0]))
        return found

    def uses(self, epoch):
        """The list of the uses of an epoch, one for each ticket."""
        check_epoch(epoch)
        uses = {}
        for entry in self._entries:
            if entry[0] == epoch:
                uses.setdefault(entry[4], (epoch, entry[3], None))
        return list(uses.values())

    def image(self):
        """The text from which the log can be loaded."""
        return ";".join([entry_text(entry) for entry in self._entries])


def load_gate(name, text):
    """The gate with this name and the log with this image."""
    gate = Gate(name)
    gate.gather(read_entries(text))
    return gate
