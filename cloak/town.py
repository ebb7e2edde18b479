"""The town: people, gates and issuers, run by the lines of a script."""

from cloak.coins import coin
from cloak.crowds import EPOCHS, MAX_MEMBERS, MAX_TICKETS, MAX_USES, possible
from cloak.draws import drawn_blinding, drawn_exponent, drawn_noise
from cloak.errors import BadForm, BadPaper, Down, Full, Missing, NotAllowed, Used
from cloak.gates import Gate
from cloak.groups import setup_of
from cloak.issuing import grant_of, key_of, offer_of, request_of, ticket_of
from cloak.lines import read_command
from cloak.passes import mark_of
from cloak.purse import Purse, Register, load_purse
from cloak.questions import holds, read_question, set_of
from cloak.showings import make_showing

TOWN_ORDER = 113
TOWN_SEED = 3

_MOST_LINES = 40
_MOST_CHARACTERS = 3000

_DONE = "ok"
_TWICE = "twice"
_REFUSED = "refused"
_NOT_SATISFIED = "not"
_NOBODY = "-"

# Where the second word of a line is a person, and which words are gates, that have to be there.
_FOR_PERSON = ("issue", "left", "show", "again", "save", "back", "power")
_GATES_AT = {"show": (2,), "again": (2,), "merge": (1, 2), "exposed": (1,), "crowd": (1,)}


def run_script(script):
    """The list of the answers to the lines of a script, in a new town."""
    lines = script.split("\n")
    if len(script) > _MOST_CHARACTERS or len(lines) > _MOST_LINES:
        raise NotAllowed("a script has at most 3000 characters and 40 lines")
    town = Town()
    return [town.answer(at, line) for at, line in enumerate(lines)]


class Holder:
    """A person of a town, with all that it has."""

    def __init__(self, person):
        self.person = person
        self.counter = Register()
        self.purse = Purse(self.counter)
        self.issued = [0] * EPOCHS
        self.saved = None
        self.last = None


class Town:
    """People and gates by their names, and the present epoch.

    The actions get the index of the line, where they draw numbers, and what
    stands behind its first word. They return the answer; the errors that they
    raise are answers, too.
    """

    def __init__(self):
        self.setup = setup_of(TOWN_ORDER, TOWN_SEED)
        self.epoch = 0
        self.holders = {}
        self.gates = {}

    def answer(self, at, line):
        """The answer to a line with its index."""
        command = read_command(line)
        if command is None:
            return "bad"
        if not command:
            return ""
        if not self.has_those_named(command):
            return "none"
        try:
            return self.act(at, command)
        except NotAllowed:
            return _REFUSED
        except BadForm:
            return "form"
        except BadPaper:
            return "paper"
        except Missing:
            return "missing"
        except Used:
            return "used"
        except Full:
            return "full"
        except Down:
            return "down"

    def has_those_named(self, command):
        """True if the person and the gates that have to be there are, otherwise False."""
        word = command[0]
        if word in _FOR_PERSON and command[1] not in self.holders:
            return False
        return all(command[place] in self.gates for place in _GATES_AT.get(word, ()))

    def act(self, at, command):
        """Do what the words of a line say."""
        word, *rest = command
        drawing = {"issue": self.issue, "show": self.show, "again": self.show_again}
        if word in drawing:
            action = drawing[word]
            return action(at, *rest)
        others = {
            "person": self.add_person, "gate": self.add_gate, "epoch": self.begin_epoch,
            "left": self.tell_left, "save": self.save, "back": self.load_back,
            "power": self.supply_power, "merge": self.merge_gates,
            "exposed": self.tell_exposed, "crowd": self.tell_crowd,
        }
        action = others[word]
        return action(*rest)

    def add_person(self, name, number, age, zone):
        """Let a person come, with an empty purse and a new register."""
        numbers = [holder.person[0] for holder in self.holders.values()]
        if name in self.holders or number in numbers:
            return _TWICE
        mark_of(self.setup, (number, age, zone))
        if len(self.holders) >= MAX_MEMBERS:
            return _REFUSED
        self.holders[name] = Holder((number, age, zone))
        return _DONE

    def add_gate(self, name):
        """Put up a gate."""
        if name in self.gates:
            return _TWICE
        self.gates[name] = Gate(name)
        return _DONE

    def issue(self, at, name):
        """Issue a ticket of the present epoch to a person."""
        holder = self.holders[name]
        if holder.issued[self.epoch] >= MAX_TICKETS:
            raise Full("a person gets at most 6 tickets of an epoch")
        blinding = drawn_blinding(TOWN_ORDER, at)
        ticket = self.ticket_for(holder.person, drawn_exponent(TOWN_ORDER, at, "w"), blinding)
        holder.purse.put(self.epoch, ticket, blinding)
        # A full purse has raised Full by now: then nothing is issued.
        holder.issued[self.epoch] += 1
        return _DONE

    def ticket_for(self, person, w, blinding):
        """The ticket of a session of the present issuer with a person."""
        secret = issuer_secret(self.epoch)
        offer = offer_of(self.setup, secret, person, w)
        c = request_of(self.setup, person, offer, blinding)
        r = grant_of(self.setup, secret, w, c)
        return ticket_of(self.setup, key_of(self.setup, secret), person, offer, blinding, r)

    def begin_epoch(self):
        """Make the next epoch the present one."""
        if self.epoch == EPOCHS - 1:
            return _REFUSED
        self.epoch += 1
        return _DONE

    def tell_left(self, name):
        """The number of usable tickets of the present epoch of a person."""
        return str(self.holders[name].purse.left(self.epoch))

    def show(self, at, name, gate, question):
        """Show a ticket of the present epoch to a gate."""
        holder = self.holders[name]
        tree = read_question(question)
        if not holds(tree, holder.person[1:]):
            return _NOT_SATISFIED
        ticket, blinding = holder.purse.take(self.epoch)
        holder.last = (self.epoch, ticket, blinding)
        return self.show_last(at, name, gate, set_of(tree))

    def show_again(self, at, name, gate, question):
        """Show the ticket that a person took last to a gate."""
        holder = self.holders[name]
        tree = read_question(question)
        if not holds(tree, holder.person[1:]):
            return _NOT_SATISFIED
        if holder.last is None:
            raise Missing("the person took no ticket yet")
        return self.show_last(at, name, gate, set_of(tree))

    def show_last(self, at, name, gate, pairs):
        """Show the ticket that a person took last for a set with the person's pair."""
        person = self.holders[name].person
        epoch, ticket, blinding = self.holders[name].last
        noise = drawn_noise(TOWN_ORDER, at, len(pairs), pairs.index(person[1:]))
        context = (gate, self.gates[gate].moment())
        showing = make_showing(self.setup, person, ticket, blinding, context, pairs, noise)
        key = key_of(self.setup, issuer_secret(epoch))
        self.gates[gate].enter(self.setup, key, epoch, pairs, showing)
        return _DONE

    def save(self, name):
        """Keep the image of a person's purse."""
        holder = self.holders[name]
        holder.saved = holder.purse.image()
        return _DONE

    def load_back(self, name):
        """Load a person's purse from the image that was kept last."""
        holder = self.holders[name]
        if holder.saved is None:
            raise Missing("no image of the purse was kept")
        holder.purse = load_purse(holder.counter, holder.saved)
        return _DONE

    def supply_power(self, name, raises):
        """Set how many raises a person's register can still make."""
        self.holders[name].counter.supply(raises)
        return _DONE

    def merge_gates(self, name, other):
        """Give a gate the entries of another one, too."""
        self.gates[name].merge(self.gates[other])
        return _DONE

    def tell_exposed(self, name):
        """The persons that are exposed by the log of a gate."""
        names = {holder.person[0]: called for called, holder in self.holders.items()}
        numbers = [row[0][0] for row in self.gates[name].exposures(self.setup)]
        return joined(sorted({names.get(number, str(number)) for number in numbers}), " ")

    def tell_crowd(self, name):
        """The persons that are possible for each use of the present epoch in the log of a gate."""
        uses = self.gates[name].uses(self.epoch)
        if len(uses) > MAX_USES:
            return _REFUSED
        members = [(*holder.person[1:], tuple(holder.issued)) for holder in self.holders.values()]
        crowd = (tuple(members), tuple(uses))
        names = list(self.holders)
        return joined([joined([names[member] for member in possible(crowd, use)], ",")
                       for use in range(len(uses))], " ")


def issuer_secret(epoch):
    """The secret of the issuer of the epoch."""
    return 1 + coin(TOWN_SEED, epoch, "key") % (TOWN_ORDER - 1)


def joined(words, separator):
    """The words with the separator between them, or the sign for none."""
    return separator.join(words) if words else _NOBODY
