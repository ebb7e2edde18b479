"""The town, written down from the rules of the document once more.

It makes no tickets: a ticket is the line in which it was issued, and the
challenges of showings are all that the answers need of them.
"""

from crowding import hand_possible
from helpers import hand_coin
from sessions import hand_mark
from stages import hand_stage

ALL = [(age, zone) for age in range(5) for zone in range(5)]

# Questions, and what is no question, with their sets.
QUESTIONS = {
    "any": ALL,
    "none": [],
    " age  < 2 or(zone==1)": [pair for pair in ALL if pair[0] < 2 or pair[1] == 1],
    "age == 1 and not zone > 3": [pair for pair in ALL if pair[0] == 1 and pair[1] <= 3],
    "zone-age>=-1": [pair for pair in ALL if pair[1] - pair[0] >= -1],
    "": None,
    "age < 12": None,
    " any any": None,
    "Any": None,
}


def hand_setup():
    """setup_of(113, 3), by the rule."""
    bases = []
    for at in range(5):
        base = 1
        for _ in range(1 + hand_coin(3, at, "base") % 112):
            base = base * 4 % 227
        bases.append(base)
    return 113, tuple(bases)


SETUP = hand_setup()


class Pass:
    """A person."""

    def __init__(self, person):
        self.person = person
        self.counts = [0, 0, 0]
        self.power = -1
        self.rows = []
        self.issued = [0, 0, 0]
        self.saved = None
        self.last = None


class HandTown:

    def __init__(self):
        self.people, self.gates, self.epoch = {}, {}, 0

    def run(self, script):
        return [self.answer(n, line) for n, line in enumerate(script.split("\n"))]

    def answer(self, n, line):
        if line == "":
            return ""
        word, *rest = line.split(" ", 3) if line[:5] in ("show ", "again") else line.split(" ")
        if word not in ("person", "gate", "epoch"):
            people = rest[:1] if word in ("issue", "left", "show", "again", "save", "back", "power") else []
            gates = {"show": rest[1:2], "again": rest[1:2], "merge": rest, "exposed": rest, "crowd": rest}
            if any(name not in self.people for name in people):
                return "none"
            if any(name not in self.gates for name in gates.get(word, [])):
                return "none"
        return getattr(self, "do_" + word)(n, *rest)

    def do_person(self, n, name, *numbers):
        person = tuple(int(number) for number in numbers)
        if name in self.people or person[0] in [other.person[0] for other in self.people.values()]:
            return "twice"
        if person[0] > 112 or person[1] > 4 or person[2] > 4 or len(self.people) == 10:
            return "refused"
        if hand_mark(SETUP, person) == 1:
            return "refused"
        self.people[name] = Pass(person)
        return "ok"

    def do_gate(self, n, name):
        if name in self.gates:
            return "twice"
        self.gates[name] = {}
        return "ok"

    def do_issue(self, n, name):
        holder = self.people[name]
        if len(holder.rows) == 12 or holder.issued[self.epoch] == 6:
            return "full"
        numbers = [number for epoch, number, _ in holder.rows if epoch == self.epoch]
        number = max([holder.counts[self.epoch]] + [other + 1 for other in numbers])
        holder.rows.append((self.epoch, number, n))
        holder.issued[self.epoch] += 1
        return "ok"

    def do_epoch(self, n):
        if self.epoch == 2:
            return "refused"
        self.epoch += 1
        return "ok"

    def usable(self, holder):
        return sorted((number, ticket) for epoch, number, ticket in holder.rows
                      if epoch == self.epoch and number >= holder.counts[epoch])

    def do_left(self, n, name):
        return str(len(self.usable(self.people[name])))

    def do_show(self, n, name, gate, question, again=False):
        holder, pairs = self.people[name], QUESTIONS[question]
        if pairs is None:
            return "form"
        if holder.person[1:] not in pairs:
            return "not"
        if again:
            if holder.last is None:
                return "missing"
        else:
            usable = self.usable(holder)
            if not usable:
                return "missing"
            if holder.power == 0:
                return "down"
            holder.power -= holder.power > 0
            number, ticket = usable[0]
            holder.counts[self.epoch] = number + 1
            holder.last = (self.epoch, ticket)
        epoch, ticket = holder.last
        log = self.gates[gate]
        moment = 1 + max([m for _, m, own in log if own == gate] + [-1])
        used = any(other == ticket for other, _, _, _ in log.values())
        log[epoch, moment, gate] = (ticket, pairs, hand_stage(113, (gate, moment), pairs), holder.person)
        return "used" if used else "ok"

    def do_again(self, n, name, gate, question):
        return self.do_show(n, name, gate, question, True)

    def do_save(self, n, name):
        self.people[name].saved = list(self.people[name].rows)
        return "ok"

    def do_back(self, n, name):
        if self.people[name].saved is None:
            return "missing"
        self.people[name].rows = list(self.people[name].saved)
        return "ok"

    def do_power(self, n, name, number):
        self.people[name].power = int(number)
        return "ok"

    def do_merge(self, n, name, other):
        self.gates[name].update(dict(self.gates[other]))
        return "ok"

    def do_exposed(self, n, name):
        shown = list(self.gates[name].values())
        names = {called for called, holder in self.people.items()
                 for one in shown for other in shown
                 if one[0] == other[0] and one[2] != other[2] and one[3] == holder.person}
        return " ".join(sorted(names)) or "-"

    def do_crowd(self, n, name):
        uses, seen = [], []
        for (epoch, _, _), (ticket, pairs, _, _) in sorted(self.gates[name].items(), key=lambda row: row[0]):
            if epoch == self.epoch and ticket not in seen:
                seen.append(ticket)
                uses.append((epoch, tuple(pairs), None))
        if len(uses) > 8:
            return "refused"
        people = list(self.people.items())
        crowd = (tuple((*holder.person[1:], tuple(holder.issued)) for _, holder in people), tuple(uses))
        rows = [[people[member][0] for member in hand_possible(crowd, use)] for use in range(len(uses))]
        return " ".join(",".join(row) or "-" for row in rows) or "-"
