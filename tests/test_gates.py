import unittest
from itertools import permutations
from random import Random

from cloak.errors import BadForm, BadPaper, CloakError, NotAllowed, Used
from cloak.gates import Gate, load_gate
from cloak.groups import setup_of
from helpers import ErrorCase, changed
from sessions import Session, drawn_session, hand_is_spend, hand_quotient
from stages import hand_showing, noise_for

SETUP = setup_of(53, 7)
PERSON = (11, 2, 4)
SESSION = Session(SETUP, 8, PERSON, 30, (5, 9, 20, (1, 2, 3, 4)))
KEY = SESSION.key
PAIRS = [(0, 4), (2, 4), (3, 0)]
ALL = [(age, zone) for age in range(5) for zone in range(5)]
NAMES = ("a", "z", "north", "abcdef", "zzzzzz")
NO_NAMES = ("", "abcdefg", "a" * 50, "North", "norTh", "NORTH", "a1", "1", "a b", " ", " a", "a ",
            "a;b", "a-b", "_", "\u00e9", "\u0430", "a\n")
NO_EPOCHS = (-1, 3, 4, -3, 10 ** 30, -10 ** 30)


def session_of(n, person=PERSON):
    return drawn_session(SETUP, 8, person, 9, n)


def showing_for(gate, session, pairs, seed=1):
    """The showing of the person of a session for the present moment of a gate."""
    return hand_showing(session, (gate.name(), gate.moment()), pairs, noise_for(session, pairs, seed))


def entered(gate, session, pairs, epoch=0, seed=1):
    """What enter returns, or the name of the error."""
    try:
        return gate.enter(SETUP, KEY, epoch, pairs, showing_for(gate, session, pairs, seed))
    except CloakError as error:
        return type(error).__name__


def hand_text(entry):
    """The text of an entry, by the rule."""
    epoch, moment, gate, pairs, ticket, (d, answers), paper = entry
    numbers = [epoch, moment, len(pairs)] + [5 * age + zone for age, zone in pairs]
    numbers += [*ticket, d, *answers]
    for c, two in paper:
        numbers += [c, *two]
    return " ".join([gate] + [str(number) for number in numbers])


def hand_order(entries):
    """Different entries, in their order."""
    return sorted(set(entries), key=lambda entry: (entry[0], entry[1], entry[2], hand_text(entry)))


def loaded(entries, name="north"):
    return load_gate(name, ";".join(hand_text(entry) for entry in hand_order(entries)))


def entry_of(epoch=0, moment=0, gate="north", pairs=((2, 4),), ticket=SESSION.ticket, d=3, spend=None):
    """An entry whose paper is not right."""
    answers = ((d, (d, 1, 2, 3)) if spend is None else spend)
    return (epoch, moment, gate, pairs, ticket, answers, tuple((n, (n + 1, 0)) for n in range(len(pairs))))


def drawn_entry(draw):
    """An entry with few different tickets, moments and names."""
    pairs = tuple(sorted(draw.sample(ALL, draw.randrange(1, 5))))
    return (draw.randrange(3), draw.randrange(4), draw.choice(NAMES), pairs,
            (*draw.choice(((1, 2, 3), (1, 2, 4), (9, 9, 9))), 5, 6, 7),
            (draw.randrange(9), tuple(draw.randrange(9) for _ in range(4))),
            tuple((draw.randrange(53), (draw.randrange(53), draw.randrange(53))) for _ in pairs))


def drawn_entries(seed, many):
    draw = Random(seed)
    return [drawn_entry(draw) for _ in range(many)]


class NameTest(ErrorCase):

    def test_names(self):
        for name in NAMES:
            gate = Gate(name)
            self.assertEqual([gate.name(), gate.moment(), gate.log(), gate.image()], [name, 0, [], ""])
            self.assertEqual([gate.exposures(SETUP), gate.uses(0)], [[], []])
            self.assertEqual(load_gate(name, "").name(), name)

    def test_what_is_no_name(self):
        for name in NO_NAMES:
            self.check_raises(NotAllowed, Gate, name)
            for text in ("", "north", hand_text(entry_of())):
                self.check_raises(NotAllowed, load_gate, name, text)


class MomentTest(ErrorCase):

    def test_by_entries(self):
        gate = Gate("north")
        for n in range(4):
            self.assertEqual(gate.moment(), n)
            self.assertIsNone(entered(gate, session_of(n), PAIRS, n % 3))
        self.assertEqual(gate.moment(), 4)

    def test_of_its_own_name_alone(self):
        for moments, wanted in (((0,), 1), ((5,), 6), ((3, 1), 4), ((1, 3), 4), ((999999,), 1000000)):
            entries = [entry_of(epoch=2 - k, moment=m) for k, m in enumerate(moments)]
            self.assertEqual(loaded(entries).moment(), wanted)
            self.assertEqual(loaded(entries, "south").moment(), 0)
            entries += [entry_of(moment=70, gate="south"), entry_of(moment=80, gate="nort")]
            self.assertEqual(loaded(entries).moment(), wanted)
            self.assertEqual(loaded(entries, "south").moment(), 71)

    def test_behind_a_merge(self):
        gate, other = Gate("north"), loaded([entry_of(moment=7), entry_of(moment=9, gate="south")], "south")
        gate.merge(other)
        self.assertEqual([gate.moment(), other.moment()], [8, 10])
        self.assertIsNone(entered(gate, session_of(1), PAIRS))
        self.assertEqual(gate.log()[1][1:3], (8, "north"))

    def test_no_moment_is_left(self):
        gate = loaded([entry_of(moment=999999)])
        before = gate.log()
        for pairs in (PAIRS, [], ALL[::-1]):
            self.check_raises(NotAllowed, gate.enter, SETUP, KEY, 0, pairs,
                              hand_showing(SESSION, ("north", 1000000), PAIRS, noise_for(SESSION, PAIRS, 1)))
        self.assertEqual(gate.log(), before)


class EnterTest(ErrorCase):

    def test_a_right_showing(self):
        for epoch in range(3):
            gate = Gate("north")
            for n, pairs in enumerate((PAIRS, [(2, 4)], ALL)):
                session = session_of(n)
                showing = showing_for(gate, session, pairs, n)
                log = gate.log()
                self.assertIsNone(gate.enter(SETUP, KEY, epoch, pairs, showing))
                self.assertEqual(gate.log(), log + [(epoch, n, "north", tuple(pairs), *showing)])

    def test_lists_that_were_passed_stay_and_are_not_kept(self):
        gate, pairs = Gate("north"), list(PAIRS)
        self.assertIsNone(entered(gate, SESSION, pairs))
        self.assertEqual(pairs, PAIRS)
        pairs.clear()
        self.assertEqual(gate.log()[0][3], tuple(PAIRS))

    def test_the_same_ticket_again(self):
        gate = Gate("north")
        self.assertIsNone(entered(gate, SESSION, PAIRS, 0))
        self.assertIsNone(entered(gate, session_of(1), PAIRS, 0))
        for epoch in range(3):
            before = gate.log()
            showing = showing_for(gate, SESSION, ALL)
            moment = gate.moment()
            self.check_raises(Used, gate.enter, SETUP, KEY, epoch, ALL, showing)
            entry = (epoch, moment, "north", tuple(ALL), *showing)
            self.assertEqual(gate.log(), hand_order(before + [entry]))
        self.assertEqual([len(gate.log()), gate.moment()], [5, 5])
        self.assertIsNone(entered(gate, session_of(2), PAIRS, 0))

    def test_the_same_ticket_in_entries_of_other_gates(self):
        gate, other = Gate("north"), Gate("south")
        self.assertIsNone(entered(other, SESSION, PAIRS, 2))
        gate.merge(other)
        self.assertEqual(entered(gate, SESSION, PAIRS, 0), "Used")
        self.assertEqual([len(gate.log()), len(other.log())], [2, 1])

    def test_a_ticket_that_differs_in_one_number_is_another_one(self):
        for at in range(6):
            gate = loaded([entry_of(ticket=changed(SESSION.ticket, at, 0))])
            self.assertIsNone(entered(gate, SESSION, PAIRS))

    def test_showings_that_are_wrong(self):
        gate = Gate("north")
        entered(gate, session_of(1), PAIRS)
        before = gate.log()
        ticket, spend, paper = good = showing_for(gate, SESSION, PAIRS)
        (c, answers), *_ = paper
        bad_papers = [(changed(ticket, at, 0), spend, paper) for at in range(6)]
        bad_papers += [(ticket, changed(spend, 0, (spend[0] + 1) % 53), paper),
                       (ticket, (spend[0], changed(spend[1], 2, (spend[1][2] + 1) % 53)), paper),
                       (ticket, spend, changed(paper, 0, ((c + 1) % 53, answers))),
                       hand_showing(SESSION, ("south", 1), PAIRS, noise_for(SESSION, PAIRS, 1)),
                       hand_showing(SESSION, ("north", 0), PAIRS, noise_for(SESSION, PAIRS, 1)),
                       hand_showing(SESSION, ("north", 2), PAIRS, noise_for(SESSION, PAIRS, 1)),
                       hand_showing(SESSION, ("north", 1), PAIRS[:2], noise_for(SESSION, PAIRS[:2], 1))]
        bad_forms = [(ticket, spend, ()), (ticket, spend, paper[1:]), (ticket, spend, paper + paper[:1]),
                     (ticket, spend, changed(paper, 0, (53, answers))),
                     (ticket, spend, changed(paper, 0, (c, answers[:1])))]
        for error, showings in ((BadPaper, bad_papers), (BadForm, bad_forms)):
            for showing in showings:
                self.check_raises(error, gate.enter, SETUP, KEY, 0, PAIRS, showing)
                self.assertEqual(gate.log(), before)
        for pairs in ([], PAIRS[::-1], [(2, 4), (2, 4)], [(2, 4), (5, 0)]):
            self.check_raises(NotAllowed, gate.enter, SETUP, KEY, 0, pairs, good)
        self.check_raises(BadPaper, gate.enter, SETUP, SETUP[1][0], 0, PAIRS, good)
        self.assertEqual([gate.log(), gate.moment()], [before, 1])
        self.assertIsNone(gate.enter(SETUP, KEY, 0, PAIRS, good))
        self.check_raises(BadPaper, gate.enter, SETUP, KEY, 0, PAIRS, good)
        self.assertEqual(len(gate.log()), 2)

    def test_epochs(self):
        gate = Gate("north")
        good = showing_for(gate, SESSION, PAIRS)
        for epoch in NO_EPOCHS:
            for showing in (good, changed(good, 0, (0,) * 6), changed(good, 2, ())):
                for pairs in (PAIRS, []):
                    self.check_raises(NotAllowed, gate.enter, SETUP, KEY, epoch, pairs, showing)
        self.assertEqual(gate.log(), [])

    def test_epochs_come_ahead_of_the_showing(self):
        with self.assertRaises(NotAllowed) as told:
            Gate("north").uses(3)
        for pairs in (PAIRS, [], ALL[::-1]):
            with self.assertRaises(NotAllowed) as raised:
                Gate("north").enter(SETUP, KEY, 3, pairs, (SESSION.ticket, (0, (0,) * 4), ()))
            self.assertEqual(str(raised.exception), str(told.exception))


class LogTest(ErrorCase):

    def test_order_by_epoch_moment_name_and_text(self):
        entries = [entry_of(epoch, moment, gate, d=d) for epoch in (0, 2) for moment in (2, 9, 10)
                   for gate in ("b", "ab", "north") for d in (5, 40)]
        for start in range(0, len(entries), 5):
            gate = Gate("north")
            for entry in entries[start:] + entries[:start]:
                gate.merge(loaded([entry]))
            # The epochs, moments and names are in order as they were written down here, but for "ab".
            # Of two texts "40" comes ahead of "5".
            self.assertEqual(gate.log(), [
                entry_of(epoch, moment, name, d=d) for epoch in (0, 2) for moment in (2, 9, 10)
                for name in ("ab", "b", "north") for d in (40, 5)])

    def test_drawn_entries(self):
        for seed in range(20):
            entries = drawn_entries(seed, 12)
            gate = Gate("north")
            for entry in entries:
                gate.merge(loaded([entry]))
            self.assertEqual(gate.log(), hand_order(entries))
            self.assertEqual(gate.image(), ";".join(hand_text(entry) for entry in hand_order(entries)))

    def test_a_new_list_each_time(self):
        gate = loaded([entry_of(), entry_of(moment=1)])
        before = gate.log()
        gate.log().clear()
        gate.log().append(entry_of(moment=2))
        gate.log().reverse()
        self.assertEqual([gate.log(), gate.moment()], [before, 2])
        entered(gate, session_of(1), PAIRS)
        self.assertEqual(len(before), 2)


class MergeTest(ErrorCase):

    def gates(self):
        entries = drawn_entries(1, 9)
        return [loaded(entries[:4], "a"), loaded(entries[2:6], "b"), loaded(entries[5:], "c")], entries

    def test_in_any_order_and_again(self):
        for order in permutations(range(3)):
            gates, entries = self.gates()
            gate = Gate("north")
            for at in (*order, *order[:2]):
                self.assertIsNone(gate.merge(gates[at]))
            self.assertEqual(gate.log(), hand_order(entries))
            self.assertEqual(gate.name(), "north")

    def test_in_parts_and_over_other_gates(self):
        (first, second, third), entries = self.gates()
        first.merge(second)
        third.merge(first)
        second.merge(third)
        first.merge(second)
        for gate in (first, second, third):
            self.assertEqual(gate.log(), hand_order(entries))

    def test_the_other_gate_does_not_change(self):
        (first, second, _), _ = self.gates()
        before = (second.log(), second.name(), second.image())
        first.merge(second)
        self.assertEqual((second.log(), second.name(), second.image()), before)
        merged = first.log()
        entered(first, session_of(1), PAIRS)
        entered(second, session_of(2), PAIRS)
        self.assertEqual(len(first.log()), len(merged) + 1)
        self.assertEqual(len(second.log()), len(before[0]) + 1)

    def test_with_itself_and_with_empty_gates(self):
        (gate, _, _), _ = self.gates()
        before = gate.log()
        for other in (gate, gate, Gate("b"), load_gate("b", gate.image()), load_gate("a", "")):
            gate.merge(other)
            self.assertEqual(gate.log(), before)

    def test_equal_entries_are_there_once(self):
        north, south, east = Gate("north"), Gate("south"), Gate("east")
        entered(north, session_of(1), PAIRS)
        south.merge(north)
        entered(south, session_of(2), PAIRS)
        east.merge(south)
        east.merge(load_gate("north", north.image()))
        self.assertEqual(len(east.log()), 2)

    def test_merging_raises_nothing_for_a_ticket_that_both_have(self):
        north, south = Gate("north"), Gate("south")
        entered(north, SESSION, PAIRS)
        entered(south, SESSION, PAIRS)
        self.assertIsNone(north.merge(south))
        self.assertEqual(len(north.log()), 2)


def hand_exposures(setup, log):
    """What a log exposes, by the rule."""
    q, found = setup[0], []
    for ticket in {entry[4] for entry in log}:
        shown = [(at, entry[5]) for at, entry in enumerate(log)
                 if entry[4] == ticket and hand_is_spend(setup, ticket, entry[5])]
        apart = [(at, first, second) for k, (at, first) in enumerate(shown) for _, second in shown[k + 1:]
                 if first[0] != second[0] and first[1][0] != second[1][0]]
        if apart:
            at, first, second = apart[0]
            lead = first[1][0] - second[1][0]
            numbers = tuple(hand_quotient(q, one - other, lead)
                            for one, other in zip(first[1][1:], second[1][1:]))
            found.append((at, (numbers, ticket, first, second)))
    return [row for _, row in sorted(found)]


def spent(session, epoch, moment, d):
    return entry_of(epoch, moment, ticket=session.ticket, spend=session.spend(d))


class ExposuresTest(ErrorCase):

    def exposures(self, *entries):
        gate = loaded(entries)
        found = gate.exposures(SETUP)
        self.assertEqual(found, hand_exposures(SETUP, gate.log()))
        return found

    def test_one_entry_of_a_ticket(self):
        self.assertEqual(self.exposures(spent(SESSION, 0, 0, 3)), [])
        self.assertEqual(self.exposures(spent(SESSION, 0, 0, 3), spent(session_of(1), 0, 1, 4)), [])

    def test_two_entries(self):
        for first, second in ((3, 10), (10, 3), (0, 1), (52, 0)):
            self.assertEqual(self.exposures(spent(SESSION, 0, 0, first), spent(SESSION, 2, 0, second)),
                             [(PERSON, SESSION.ticket, SESSION.spend(first), SESSION.spend(second))])

    def test_equal_challenges(self):
        self.assertEqual(self.exposures(spent(SESSION, 0, 0, 3), spent(SESSION, 0, 1, 3)), [])
        self.assertEqual(self.exposures(*[spent(SESSION, 0, n, 3) for n in range(5)]), [])

    def test_three_entries(self):
        a, b, c = SESSION.spend(3), SESSION.spend(10), SESSION.spend(20)
        for row, wanted in (((3, 3, 10), (a, b)), ((3, 10, 3), (a, b)), ((10, 3, 3), (b, a)),
                            ((3, 10, 20), (a, b)), ((20, 10, 3), (c, b)), ((3, 3, 3, 20, 10), (a, c))):
            found = self.exposures(*[spent(SESSION, 0, n, d) for n, d in enumerate(row)])
            self.assertEqual(found, [(PERSON, SESSION.ticket, *wanted)])

    def spend_apart_from(self, d, first_answer):
        """An accepted spend with this first answer, made by a logarithm."""
        for answers in ((first_answer, x1, x2, 0) for x1 in range(53) for x2 in range(53)):
            if hand_is_spend(SETUP, SESSION.ticket, (d, answers)):
                return d, answers
        raise AssertionError

    def test_equal_first_answers(self):
        first = SESSION.spend(3)
        second = self.spend_apart_from(10, first[1][0])
        entries = [entry_of(0, n, spend=spend) for n, spend in enumerate((first, second))]
        self.assertEqual(self.exposures(*entries), [])
        # The first entry has no partner, but the second one has.
        third = self.spend_apart_from(3, (first[1][0] + 5) % 53)
        self.assertNotEqual(second[0], third[0])
        found = self.exposures(*entries, entry_of(0, 2, spend=third))
        self.assertEqual([row[1:] for row in found], [(SESSION.ticket, second, third)])
        fourth = SESSION.spend(20)
        found = self.exposures(*entries, entry_of(0, 2, spend=third), entry_of(0, 3, spend=fourth))
        self.assertEqual([row[1:] for row in found], [(SESSION.ticket, first, fourth)])

    def test_numbers_are_those_of_these_two_spends(self):
        first, last = SESSION.spend(3), SESSION.spend(20)
        forged = self.spend_apart_from(10, (first[1][0] + 5) % 53)
        row, = self.exposures(*[entry_of(0, n, spend=spend) for n, spend in enumerate((first, forged, last))])
        self.assertEqual(row[1:], (SESSION.ticket, first, forged))
        self.assertNotEqual(row[0], PERSON)
        row, = self.exposures(*[entry_of(0, n, spend=spend) for n, spend in enumerate((first, last, forged))])
        self.assertEqual(row, (PERSON, SESSION.ticket, first, last))

    def test_the_order_of_the_list(self):
        one, two = session_of(1), session_of(2)
        rows = [spent(one, 0, 0, 3), spent(two, 0, 1, 4), spent(two, 0, 2, 5), spent(one, 0, 3, 6)]
        self.assertEqual([row[1] for row in self.exposures(*rows)], [one.ticket, two.ticket])
        # The entries of a ticket that expose nothing do not count for the order.
        first = one.spend(3)
        lone = [entry for entry in rows[1:]] + [entry_of(0, 0, ticket=one.ticket, spend=changed(first, 0, 4))]
        self.assertEqual([row[1] for row in self.exposures(*lone)], [two.ticket])
        self.assertEqual([row[1] for row in self.exposures(*lone, spent(one, 1, 0, 9))],
                         [two.ticket, one.ticket])

    def test_the_order_goes_by_the_first_of_the_two_entries(self):
        # The ticket of the first entry is exposed by later entries only.
        other = session_of(2)
        first = SESSION.spend(3)
        second = self.spend_apart_from(10, first[1][0])
        third = self.spend_apart_from(3, (first[1][0] + 5) % 53)
        entries = [entry_of(0, 0, spend=first), spent(other, 0, 1, 4), spent(other, 0, 2, 5),
                   entry_of(0, 3, spend=second), entry_of(0, 4, spend=third)]
        self.assertEqual([row[1] for row in self.exposures(*entries)], [other.ticket, SESSION.ticket])

    def test_spends_that_are_not_accepted_do_not_count(self):
        good = SESSION.spend(10)
        for wrong in (changed(good, 0, 11), (10, changed(good[1], 1, (good[1][1] + 1) % 53)),
                      (10, changed(good[1], 0, good[1][0] + 53)), (63, good[1])):
            entries = [spent(SESSION, 0, 0, 3), entry_of(0, 1, spend=wrong)]
            self.assertEqual(self.exposures(*entries), [])
            self.assertEqual(self.exposures(*entries, spent(SESSION, 0, 2, 10)),
                             [(PERSON, SESSION.ticket, SESSION.spend(3), good)])
        for strange in ((0,) * 6, (1000, 5, 1, 1, 1, 1)):
            entries = [entry_of(0, n, ticket=strange, spend=(d, (d, 0, 0, 0))) for n, d in ((0, 3), (1, 4))]
            self.assertEqual(self.exposures(*entries), [])

    def test_by_the_rule_for_drawn_logs(self):
        people = [(11, 2, 4), (0, 0, 1), (52, 4, 4)]
        for seed in range(25):
            draw, entries = Random(seed), []
            sessions = [session_of(n, person) for n, person in enumerate(people)]
            for n in range(9):
                session = draw.choice(sessions)
                spend = session.spend(draw.randrange(3))
                if draw.randrange(4) == 0:
                    spend = changed(spend, 0, (spend[0] + 1) % 53)
                entries.append(entry_of(draw.randrange(3), n, ticket=session.ticket, spend=spend))
            self.exposures(*entries)

    def test_tickets_that_were_really_shown_twice(self):
        north, south = Gate("north"), Gate("south")
        other = session_of(3, (7, 2, 4))
        for gate, session in ((north, SESSION), (south, other), (south, SESSION)):
            self.assertIsNone(entered(gate, session, PAIRS))
        self.assertEqual([north.exposures(SETUP), south.exposures(SETUP)], [[], []])
        north.merge(south)
        self.assertEqual([row[:2] for row in north.exposures(SETUP)], [(PERSON, SESSION.ticket)])
        self.assertEqual(north.exposures(SETUP), hand_exposures(SETUP, north.log()))
        north.exposures(SETUP).clear()
        self.assertEqual(len(north.exposures(SETUP)), 1)


class UsesTest(ErrorCase):

    def test_the_first_entries_of_the_epoch(self):
        a, b, c = (session_of(n).ticket for n in range(3))
        few, more, most = ((0, 0),), ((0, 0), (1, 1)), tuple(ALL)
        gate = loaded([entry_of(0, 0, "north", few, a), entry_of(0, 1, "north", more, b),
                       entry_of(0, 2, "north", most, a), entry_of(0, 2, "a", few, b),
                       entry_of(1, 0, "south", more, b), entry_of(1, 0, "north", most, c),
                       entry_of(1, 1, "north", few, a), entry_of(1, 2, "north", few, c)])
        self.assertEqual(gate.uses(0), [(0, few, None), (0, more, None)])
        self.assertEqual(gate.uses(1), [(1, most, None), (1, more, None), (1, few, None)])
        self.assertEqual(gate.uses(2), [])

    def test_equal_questions_of_different_tickets(self):
        gate = Gate("north")
        for n in range(3):
            entered(gate, session_of(n), PAIRS, 2)
        entered(gate, session_of(1), ALL, 2)
        self.assertEqual(gate.uses(2), [(2, tuple(PAIRS), None)] * 3)
        self.assertEqual([gate.uses(0), gate.uses(1)], [[], []])

    def test_a_new_list_each_time(self):
        gate = loaded([entry_of()])
        gate.uses(0).clear()
        self.assertEqual(gate.uses(0), [(0, ((2, 4),), None)])

    def test_epochs(self):
        for gate in (Gate("north"), loaded([entry_of()])):
            for epoch in NO_EPOCHS:
                self.check_raises(NotAllowed, gate.uses, epoch)

    def test_by_the_rule(self):
        for seed in range(20):
            gate = loaded(drawn_entries(seed, 12))
            for epoch in range(3):
                firsts = {}
                for entry in gate.log():
                    if entry[0] == epoch and entry[4] not in firsts:
                        firsts[entry[4]] = (epoch, entry[3], None)
                self.assertEqual(gate.uses(epoch), list(firsts.values()))


GOOD = ("north 0 5 2 4 14 1 2 3 4 5 6 7 8 9 10 11 12 13 14 15 16 17",
        "south 0 5 1 0 9999 0 3 4 5 0 0 8 9 10 1012 12 13 14",
        "north 2 123456 1 24 1 2 3 4 5 6 7 8 9 10 11 12 13 14")


class ImageTest(ErrorCase):

    def check_bad(self, *parts):
        self.check_raises(BadForm, load_gate, "north", ";".join(parts))

    def test_written_out(self):
        log = [(0, 5, "north", ((0, 4), (2, 4)), (1, 2, 3, 4, 5, 6), (7, (8, 9, 10, 11)),
                ((12, (13, 14)), (15, (16, 17)))),
               (0, 5, "south", ((0, 0),), (9999, 0, 3, 4, 5, 0), (0, (8, 9, 10, 1012)), ((12, (13, 14)),)),
               (2, 123456, "north", ((4, 4),), (1, 2, 3, 4, 5, 6), (7, (8, 9, 10, 11)), ((12, (13, 14)),))]
        gate = load_gate("west", ";".join(GOOD))
        self.assertEqual([gate.log(), gate.name(), gate.image()], [log, "west", ";".join(GOOD)])
        self.assertIs(type(gate), Gate)

    def test_inverse_to_each_other(self):
        for seed in range(20):
            gate = loaded(drawn_entries(seed, seed % 14))
            other = load_gate("north", gate.image())
            self.assertEqual([other.log(), other.image()], [gate.log(), gate.image()])
        gate = Gate("south")
        for n, pairs in enumerate((PAIRS, ALL, PAIRS)):
            entered(gate, session_of(n // 2), pairs, n % 2)
        other = load_gate("south", gate.image())
        self.assertEqual([other.log(), other.image()], [gate.log(), gate.image()])
        self.assertEqual(entered(other, session_of(0), PAIRS), "Used")
        self.assertEqual(len(gate.log()), 3)

    def test_the_empty_log(self):
        self.assertEqual([Gate("a").image(), load_gate("a", "").log(), load_gate("a", "").image()], ["", [], ""])

    def test_both_ends(self):
        for text in ("a 0 0 1 0" + " 0" * 14, "zzzzzz 2 999999 1 24" + " 9999" * 14,
                     "a 0 0 25 " + " ".join(map(str, range(25))) + " 1" * 86):
            self.assertEqual(load_gate("north", text).image(), text)

    def test_words_left_out_twice_or_others(self):
        for at, part in enumerate(GOOD):
            words = part.split(" ")
            spoilt = []
            for k in range(len(words)):
                spoilt += [words[:k] + words[k + 1:], words[:k] + [""] + words[k:],
                           words[:k] + [words[k] + " "] + words[k + 1:]]
            for k in range(1, len(words)):
                for number in ("+1", "-1", "-0", "01", "00", "0000", "00001", "1.0", "", "x", "1x", "1_0",
                               "\u0661", "\u00b2", "north", "1000000", "9999999"):
                    spoilt.append(words[:k] + [number] + words[k + 1:])
                if k != 2:
                    spoilt += [words[:k] + [number] + words[k + 1:] for number in ("10000", "12345", "123456")]
            spoilt += [words + ["0"], words + ["0"] * 3, words + ["0"] * 4, words[:-3], words[:-4], words[:4],
                       words[:3], words[:2], words[:1]]
            for name in NO_NAMES:
                spoilt.append([name] + words[1:])
            for changed_words in spoilt:
                self.check_bad(*GOOD[:at], " ".join(changed_words), *GOOD[at + 1:])

    def test_moments_have_up_to_six_digits(self):
        for moment in ("0", "9", "10000", "99999", "100000", "999999"):
            text = GOOD[2].replace("123456", moment)
            self.assertEqual(load_gate("north", text).image(), text)
        for moment in ("1000000", "0123456", "000001", "-1", ""):
            self.check_bad(GOOD[2].replace("123456", moment))

    def test_epochs(self):
        for epoch in range(3):
            self.assertEqual(load_gate("a", f"north {epoch}" + GOOD[0][7:]).log()[0][0], epoch)
        for epoch in (3, 4, 9, 10, 9999):
            self.check_bad(f"north {epoch}" + GOOD[0][7:])

    def test_sets_of_pairs(self):
        def text(*indexes):
            many = len(indexes)
            return " ".join(str(n) for n in ("north", 0, 0, many, *indexes, *[1] * (11 + 3 * many)))
        for indexes in ((0,), (24,), (0, 24), (3, 4, 5), tuple(range(25))):
            self.assertEqual(load_gate("a", text(*indexes)).image(), text(*indexes))
        for indexes in ((), (25,), (0, 25), (24, 25), (1, 0), (0, 0), (3, 3), (3, 5, 4), (0, 9999), (24, 0),
                        tuple(range(26)), (0, *range(25))):
            self.check_bad(text(*indexes))

    def test_a_paper_of_another_length(self):
        for many in range(1, 4):
            for claims in range(6):
                numbers = [0, 0, many, *range(many), *[1] * (11 + 3 * claims)]
                text = "north " + " ".join(map(str, numbers))
                if claims == many:
                    self.assertEqual(len(load_gate("a", text).log()[0][6]), many)
                else:
                    self.check_bad(text)

    def test_entries_exchanged_or_twice(self):
        for order in permutations(GOOD):
            if order != GOOD:
                self.check_bad(*order)
        for at in range(3):
            self.check_bad(*GOOD[:at + 1], *GOOD[at:])
            self.check_bad(*GOOD, GOOD[at])
        # By their texts, "13 9" comes behind "13 14".
        last = GOOD[1][:-2] + "9"
        self.check_bad(last, GOOD[1])
        self.assertEqual(len(load_gate("a", GOOD[1] + ";" + last).log()), 2)

    def test_semicolons_and_spaces(self):
        good = ";".join(GOOD)
        for text in (";", ";;", " ", good + ";", ";" + good, good.replace(";", ";;"), good.replace(";", "; "),
                     good.replace(";", " ;"), good.replace(";", ","), good.replace(";", " "), good + " ",
                     " " + good, good + "\n", good.replace(";", "\n"), good.replace(" ", "\t"),
                     "north", "north ", "north 0", "north 0 0", "north 0 0 0", "north 0 0 1", ";north"):
            self.check_bad(text)

    def test_a_name_that_is_none_comes_ahead_of_a_bad_image(self):
        for name in NO_NAMES:
            for text in (";", "x", GOOD[0] + ";" + GOOD[0], ";".join(GOOD)):
                self.check_raises(NotAllowed, load_gate, name, text)


if __name__ == "__main__":
    unittest.main()
