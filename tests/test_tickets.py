import unittest

from cloak.errors import BadForm
from cloak.groups import setup_of
from cloak.issuing import grant_of, key_of, offer_of, request_of, ticket_of
from cloak.spends import exposed, is_spend, spend_of
from cloak.tickets import explain_ticket, inner_challenge, is_ticket, read_ticket, ticket_text
from helpers import changed, multiplied, squares
from sessions import (
    STRANGE, Session, blindings_that_lead, drawn, drawn_session, hand_challenge, hand_is_ticket,
    hand_mark, unusable_people, usable_people,
)

SETUP = (11, (4, 9, 3, 18, 2))
SETUPS = (SETUP, setup_of(23, 5), setup_of(53, 7), setup_of(1013, 2))
PERSON = (2, 1, 3)
SESSION = Session(SETUP, 8, PERSON, 6, (5, 9, 7, (1, 2, 3, 4)))
NO_ELEMENTS = (0, 5, 22, 23, 24, 27, -1, -4, *STRANGE)
LARGEST = 10 ** 1000 - 1


class InnerChallengeTest(unittest.TestCase):

    def test_by_the_rule(self):
        for n in range(50):
            session = drawn_session(SETUP, 1 + n % 10, PERSON, 1, n)
            expected = hand_challenge(11, "ticket", session.ticket[:5])
            self.assertEqual(inner_challenge(SETUP, session.ticket), expected)

    def test_of_any_integers(self):
        for setup in SETUPS:
            for numbers in ((0, 0, 0, 0, 0), (-1, 5, 0, -77, 10 ** 6), (LARGEST,) * 5,
                            (-LARGEST,) * 5, (1, -LARGEST, 2, LARGEST, 3)):
                self.assertEqual(inner_challenge(setup, (*numbers, 4)),
                                 hand_challenge(setup[0], "ticket", numbers))

    def test_the_sixth_number_does_not_matter(self):
        for number in (-1, 0, 5, 11, *STRANGE):
            self.assertEqual(inner_challenge(SETUP, changed(SESSION.ticket, 5, number)),
                             inner_challenge(SETUP, SESSION.ticket))


class IsTicketTest(unittest.TestCase):

    def test_tickets_of_honest_sessions(self):
        for setup in SETUPS:
            q = setup[0]
            for n in range(20):
                person = (drawn(2, n, "number", 0, q), n % 5, n * 2 % 5)
                if hand_mark(setup, person) != 1:
                    session = drawn_session(setup, drawn(2, n, "x", 1, q), person, 2, n)
                    self.assertIs(is_ticket(setup, session.key, session.ticket), True)

    def test_all_people_and_all_keys(self):
        for person in usable_people(SETUP):
            for secret in (1, 4, 10):
                session = Session(SETUP, secret, person, 6, SESSION.blinding)
                for key in squares(11)[1:]:
                    self.assertIs(is_ticket(SETUP, key, session.ticket), key == session.key)

    def test_each_number_changed_against_the_rule(self):
        right = 0
        for n in range(6):
            session = drawn_session(SETUP, 8, PERSON, 3, n)
            for at in range(6):
                for number in range(24):
                    ticket = changed(session.ticket, at, number)
                    expected = hand_is_ticket(SETUP, session.key, ticket)
                    self.assertIs(is_ticket(SETUP, session.key, ticket), expected)
                    right += expected
        self.assertGreaterEqual(right, 36)
        self.assertLess(right, 80)

    def test_one_of_both_checks_alone_is_not_enough(self):
        first = second = 0
        ticket = SESSION.ticket
        for z1 in squares(11):
            for b1 in squares(11):
                for r1 in range(11):
                    other = (*ticket[:2], z1, ticket[3], b1, r1)
                    c1 = hand_challenge(11, "ticket", other[:5])
                    one = multiplied(11, 4, r1) == other[3] * multiplied(11, SESSION.key, c1) % 23
                    both = hand_is_ticket(SETUP, SESSION.key, other)
                    self.assertIs(is_ticket(SETUP, SESSION.key, other), both)
                    first += one and not both
                    second += both
        self.assertTrue(first and second)

    def test_r1_fits_in_one_check_only(self):
        found = 0
        for a1 in squares(11):
            for b1 in squares(11):
                for r1 in range(11):
                    other = (*SESSION.ticket[:3], a1, b1, r1)
                    c1 = hand_challenge(11, "ticket", other[:5])
                    fits = (multiplied(11, other[0], r1)
                            == b1 * multiplied(11, other[2], c1) % 23)
                    both = hand_is_ticket(SETUP, SESSION.key, other)
                    self.assertIs(is_ticket(SETUP, SESSION.key, other), both)
                    found += fits and not both
        self.assertGreater(found, 0)

    def test_a_number_that_is_no_element(self):
        for at in range(5):
            for number in (*NO_ELEMENTS, SESSION.ticket[at] + 23, SESSION.ticket[at] - 23):
                self.assertIs(
                    is_ticket(SETUP, SESSION.key, changed(SESSION.ticket, at, number)), False)

    def tickets_with(self, first):
        """Tuples that fit both checks, with this A, whatever else is wrong."""
        for n in range(11):
            for z1 in squares(11):
                a1, b1 = multiplied(11, 4, n), multiplied(11, 4, 2 * n % 11)
                c1 = hand_challenge(11, "ticket", (first, 9, z1, a1, b1))
                for r1 in range(11):
                    if (multiplied(11, 4, r1) == a1 * multiplied(11, SESSION.key, c1) % 23
                            and multiplied(11, first, r1) == b1 * multiplied(11, z1, c1) % 23):
                        yield first, 9, z1, a1, b1, r1

    def test_with_a_1_it_is_none_although_the_checks_hold(self):
        others = list(self.tickets_with(1))
        self.assertTrue(others)
        for ticket in others:
            self.assertIs(is_ticket(SETUP, SESSION.key, ticket), False)
        for ticket in self.tickets_with(4):
            self.assertIs(is_ticket(SETUP, SESSION.key, ticket), True)

    def test_r1_out_of_range(self):
        r1 = SESSION.ticket[5]
        for number in (-1, 11, 12, r1 + 11, r1 - 11, r1 + 22, r1 + 11 * STRANGE[0], *STRANGE):
            self.assertIs(
                is_ticket(SETUP, SESSION.key, changed(SESSION.ticket, 5, number)), False)


class TextTest(unittest.TestCase):

    def test_written_out(self):
        self.assertEqual(ticket_text((0, 1, 22, 333, 4444, 9999)), "0 1 22 333 4444 9999")
        self.assertEqual(ticket_text((-1, 10, 0, -22, 5, 10 ** 20)),
                         "-1 10 0 -22 5 100000000000000000000")
        self.assertEqual(ticket_text((LARGEST,) * 6), " ".join(["9" * 1000] * 6))
        self.assertEqual(read_ticket("0 1 22 333 4444 9999"), (0, 1, 22, 333, 4444, 9999))
        self.assertEqual(read_ticket("0 0 0 0 0 0"), (0,) * 6)

    def test_inverse_to_each_other(self):
        for n in range(10000):
            ticket = (n, 9999 - n, n // 10, n % 100, 0, n * 7 % 10000)
            text = ticket_text(ticket)
            self.assertEqual(read_ticket(text), ticket)
            self.assertEqual(ticket_text(read_ticket(text)), text)
        for n in range(20):
            ticket = drawn_session(setup_of(1013, 2), 8, PERSON, 4, n).ticket
            self.assertEqual(read_ticket(ticket_text(ticket)), ticket)

    def test_kinds(self):
        ticket = read_ticket("0 1 22 333 4444 9999")
        self.assertEqual([type(ticket)] + [type(n) for n in ticket], [tuple] + [int] * 6)

    def test_texts_without_a_ticket(self):
        for text in ("", " ", "1", "1 2 3 4 5", "1 2 3 4 5 6 7", "1 2 3 4 5 ", " 1 2 3 4 5",
                     "1 2 3 4 5 6 ", " 1 2 3 4 5 6", "1 2 3  4 5 6", "1  2 3 4 5", "1,2,3,4,5,6",
                     "1 2 3 4 5 6;", "ticket 1 2 3 4 5 6", "(1, 2, 3, 4, 5, 6)", "123456",
                     "1 2 3 4 5\t6", "1 2 3 4 5 6\n", "1\n2 3 4 5 6", "     "):
            with self.assertRaises(BadForm):
                read_ticket(text)

    def test_numbers_in_another_form(self):
        for word in ("00", "01", "0000", "007", "00000", "12345", "10000", "99999", "+1", "-1", "-0",
                     "+", "-", "a", "1a", "a1", "1_0", "1.0", "1e3", "0x1", "~", "12 ", "\u0661",
                     "\u00b2", "", "9" * 1000, "9" * 5000):
            for at in range(6):
                words = changed(["1", "2", "3", "4", "5", "6"], at, word)
                with self.assertRaises(BadForm):
                    read_ticket(" ".join(words))


class ExplainTest(unittest.TestCase):

    def check(self, setup, key, record, ticket, spend, expected):
        """That just the blinding that is told leads there, of all that there are."""
        self.assertIn(len(expected), (0, 1))
        found = explain_ticket(setup, key, record, ticket, spend)
        self.assertEqual(found, expected[0] if expected else None)

    def check_by_trying(self, setup, key, record, ticket, spend):
        expected = blindings_that_lead(setup, key, record, ticket, spend)
        self.check(setup, key, record, ticket, spend, expected)
        return len(expected)

    def test_the_session_itself(self):
        for setup in SETUPS:
            q = setup[0]
            for n in range(15):
                person = (drawn(5, n, "number", 0, q), n % 5, n * 3 % 5)
                if hand_mark(setup, person) != 1:
                    session = drawn_session(setup, drawn(5, n, "x", 1, q), person, 5, n)
                    for d in (0, 1, q - 1):
                        found = explain_ticket(setup, session.key, session.record, session.ticket,
                                               session.spend(d))
                        self.assertEqual(found, session.blinding)

    def test_any_session_of_the_issuer_with_exactly_one_blinding(self):
        for setup, step in ((SETUP, 3), (setup_of(23, 5), 60)):
            q = setup[0]
            for n, person in enumerate(usable_people(setup)[::step]):
                secret = drawn(6, n, "x", 1, q)
                session = drawn_session(setup, secret, (2, 1, n % 2), 6, n)
                other = drawn_session(setup, secret, person, 7, n)
                many = self.check_by_trying(setup, session.key, other.record, session.ticket,
                                            session.spend(n % q))
                self.assertEqual(many, 1)

    def test_what_is_told_leads_there_by_the_steps_of_a_session(self):
        setup = setup_of(1013, 2)
        session = drawn_session(setup, 700, (600, 2, 4), 8, 0)
        for n in range(20):
            other = drawn_session(setup, 700, (n * 50, n % 5, n * 2 % 5), 8, n)
            spend = session.spend(n)
            found = explain_ticket(setup, session.key, other.record, session.ticket, spend)
            self.assertEqual(request_of(setup, other.person, other.offer, found), other.c)
            self.assertEqual(ticket_of(setup, session.key, other.person, other.offer, found, other.r),
                             session.ticket)
            self.assertEqual(spend_of(setup, other.person, found, n), spend)

    def test_the_blinding_hangs_on_the_spend(self):
        other = drawn_session(SETUP, 8, (7, 4, 0), 9, 1)
        found = {explain_ticket(SETUP, SESSION.key, other.record, SESSION.ticket, SESSION.spend(d))
                 for d in range(11)}
        self.assertGreater(len(found), 1)
        found = {explain_ticket(SETUP, SESSION.key, SESSION.record, SESSION.ticket,
                                SESSION.spend(d)) for d in range(11)}
        self.assertEqual(found, {SESSION.blinding})

    def test_a_record_of_an_issuer_with_another_key(self):
        for secret in range(1, 11):
            for n in range(5):
                other = drawn_session(SETUP, secret, (7, 4, 0), 10, n)
                for key in (SESSION.key, other.key):
                    many = self.check_by_trying(SETUP, key, other.record, SESSION.ticket,
                                                SESSION.spend(3))
                    self.assertEqual(many, 1 if secret == 8 else 0)

    def test_another_key(self):
        for key in squares(11)[1:]:
            if key != SESSION.key:
                self.check(SETUP, key, SESSION.record, SESSION.ticket, SESSION.spend(3), [])

    def sessions(self):
        return SESSION, drawn_session(SETUP, 8, (7, 4, 0), 11, 1)

    def check_changed(self, record, ticket, spend):
        return self.check_by_trying(SETUP, SESSION.key, record, ticket, spend)

    def test_each_number_of_the_ticket_changed(self):
        many = 0
        for session in self.sessions():
            for at in range(6):
                for number in (*squares(11), 0, 5, 10, 11, -1, 23, SESSION.ticket[at] + 23,
                               SESSION.ticket[at] + 11, SESSION.ticket[at] - 11, *STRANGE):
                    if number != SESSION.ticket[at]:
                        ticket = changed(SESSION.ticket, at, number)
                        many += self.check_changed(session.record, ticket, SESSION.spend(3))
        # A, z1, a1, b1 and r1 follow from c and r, and B from the answers of the spend.
        self.assertEqual(many, 0)

    def test_each_number_of_the_spend_changed(self):
        d, answers = SESSION.spend(3)
        for session in self.sessions():
            for number in (*range(-1, 13), d + 11, d - 11, *STRANGE):
                if number != d:
                    self.check_changed(session.record, SESSION.ticket, (number, answers))
            for at in range(4):
                for number in (*range(-1, 13), answers[at] + 11, answers[at] - 11, *STRANGE):
                    if number != answers[at]:
                        spend = (d, changed(answers, at, number))
                        many = self.check_changed(session.record, SESSION.ticket, spend)
                        self.assertEqual(many, 0)

    def test_c_and_r_of_the_record_changed(self):
        for session in self.sessions():
            person, offer, c, r = session.record
            for number in (*range(-1, 13), c + 11, c - 11, 11 * STRANGE[0] + c, *STRANGE):
                if number != c:
                    record = (person, offer, number, r)
                    self.assertEqual(
                        self.check_changed(record, SESSION.ticket, SESSION.spend(3)), 0)
            for number in (*range(-1, 13), r + 11, r - 11, 11 * STRANGE[0] + r, *STRANGE):
                if number != r:
                    record = (person, offer, c, number)
                    self.assertEqual(
                        self.check_changed(record, SESSION.ticket, SESSION.spend(3)), 0)

    def test_each_number_of_the_offer_changed(self):
        for session in self.sessions():
            person, offer, c, r = session.record
            for at in range(3):
                for number in (*squares(11), 0, 5, -1, 23, offer[at] + 23, *STRANGE):
                    if number != offer[at]:
                        record = (person, changed(offer, at, number), c, r)
                        self.check_changed(record, SESSION.ticket, SESSION.spend(3))

    def test_other_people_in_the_record(self):
        for session in self.sessions():
            for person in usable_people(SETUP)[::5]:
                record = (person, *session.record[1:])
                self.check_changed(record, SESSION.ticket, SESSION.spend(3))

    def test_a_record_whose_person_is_not_usable_or_out_of_range(self):
        people = unusable_people(SETUP) + [(13, 1, 3), (-9, 1, 3), (2, 5, 3), (2, -1, 3), (2, 1, 5),
                                           (2, 1, -1), (2, 12, 3), (2, 1, 14)]
        people += [changed(PERSON, at, PERSON[at] + 11 * number) for at in range(3)
                   for number in STRANGE]
        for person in people:
            record = (person, *SESSION.record[1:])
            self.check(SETUP, SESSION.key, record, SESSION.ticket, SESSION.spend(3), [])

    def test_everything_out_of_range(self):
        for number in STRANGE:
            record = ((number,) * 3, (number,) * 3, number, number)
            self.check(SETUP, SESSION.key, record, (number,) * 6, (number, (number,) * 4), [])

    def test_kinds(self):
        found = explain_ticket(SETUP, SESSION.key, SESSION.record, SESSION.ticket, SESSION.spend(3))
        self.assertEqual([type(found), type(found[3])], [tuple, tuple])


class ExampleTest(unittest.TestCase):

    def test_the_example_of_the_document(self):
        setup = setup_of(53, 7)
        person = (11, 2, 4)
        blinding = (5, 9, 20, (1, 2, 3, 4))
        offer = offer_of(setup, 8, person, 30)
        c = request_of(setup, person, offer, blinding)
        r = grant_of(setup, 8, 30, c)
        ticket = ticket_of(setup, key_of(setup, 8), person, offer, blinding, r)
        self.assertIs(is_ticket(setup, key_of(setup, 8), ticket), True)
        first = spend_of(setup, person, blinding, 3)
        second = spend_of(setup, person, blinding, 10)
        self.assertEqual([is_spend(setup, ticket, first), exposed(setup, ticket, first, second)],
                         [True, (11, 2, 4)])
        record = (person, offer, c, r)
        self.assertEqual(explain_ticket(setup, key_of(setup, 8), record, ticket, first), blinding)


if __name__ == "__main__":
    unittest.main()
