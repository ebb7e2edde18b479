import unittest

from cloak.errors import BadPaper, NotAllowed
from cloak.groups import setup_of
from cloak.issuing import grant_of, key_of, offer_of, request_of, ticket_of
from helpers import changed, multiplied, squares
from sessions import (
    STRANGE, Session, drawn, drawn_blinding, drawn_session, hand_checks, hand_five, hand_mark,
    hand_offer, hand_request, hand_ticket, unusable_people, usable_people,
)

SETUP = (11, (4, 9, 3, 18, 2))
SETUPS = (SETUP, (11, (4, 4, 4, 4, 4)), setup_of(23, 5), setup_of(53, 7))
PERSON = (2, 1, 3)
BLINDING = (5, 9, 7, (1, 2, 3, 4))
OFFER = hand_offer(SETUP, 8, PERSON, 6)
NO_EXPONENTS = (-1, 11, 12, -11, 22, *STRANGE)
NO_ELEMENTS = (0, 5, 22, 23, 24, 27, -1, -4, *STRANGE)
NO_PEOPLE = [(-1, 1, 1), (11, 1, 1), (1, 5, 1), (1, -1, 1), (1, 1, 5), (1, 1, -1)]
NO_PEOPLE += [changed(PERSON, at, number) for at in range(3) for number in STRANGE]
NO_PEOPLE += unusable_people(SETUP)


def ends_of_blindings(q):
    """Blindings with one number at an end of its range."""
    for number in (1, q - 1):
        yield changed(BLINDING, 0, number)
        yield changed(BLINDING, 1, number)
    for number in (0, q - 1):
        yield changed(BLINDING, 2, number)
        for at in range(4):
            yield changed(BLINDING, 3, changed(BLINDING[3], at, number))
    yield (1, 1, 0, (0, 0, 0, 0))
    yield (q - 1, q - 1, q - 1, (q - 1,) * 4)


def no_blindings():
    """Blindings with one number out of range, for the order 11."""
    for number in (0, *NO_EXPONENTS):
        yield changed(BLINDING, 0, number)
        yield changed(BLINDING, 1, number)
    for number in NO_EXPONENTS:
        yield changed(BLINDING, 2, number)
        for at in range(4):
            yield changed(BLINDING, 3, changed(BLINDING[3], at, number))


def no_offers():
    for at in range(3):
        for number in NO_ELEMENTS:
            yield changed(OFFER, at, number)
    yield changed(OFFER, 0, 1)


class KeyTest(unittest.TestCase):

    def test_by_multiplying(self):
        for setup in SETUPS:
            for secret in range(1, setup[0]):
                self.assertEqual(key_of(setup, secret), multiplied(setup[0], setup[1][0], secret))

    def test_it_is_an_element_other_than_1(self):
        for setup in SETUPS:
            keys = [key_of(setup, secret) for secret in range(1, setup[0])]
            self.assertEqual(sorted(keys), [y for y in squares(setup[0]) if y != 1])

    def test_what_is_no_secret(self):
        for secret in (0, *NO_EXPONENTS):
            with self.assertRaises(NotAllowed):
                key_of(SETUP, secret)
        self.assertEqual(key_of(setup_of(1013, 1), 1012),
                         multiplied(1013, setup_of(1013, 1)[1][0], 1012))
        with self.assertRaises(NotAllowed):
            key_of(setup_of(1013, 1), 1013)


class OfferTest(unittest.TestCase):

    def test_by_the_rule(self):
        for setup in (SETUP, setup_of(23, 5)):
            for at, person in enumerate(usable_people(setup)):
                secret, w = drawn(1, at, "x", 1, setup[0]), drawn(1, at, "w", 0, setup[0])
                self.assertEqual(offer_of(setup, secret, person, w),
                                 hand_offer(setup, secret, person, w))

    def test_all_secrets_and_all_w(self):
        for secret in range(1, 11):
            for w in range(11):
                self.assertEqual(offer_of(SETUP, secret, PERSON, w),
                                 hand_offer(SETUP, secret, PERSON, w))
            self.assertEqual(offer_of(SETUP, secret, PERSON, 0)[1:], (1, 1))

    def test_written_out(self):
        # The mark is 3; 3 ** 2 is 9, 4 ** 3 is 64 = 2 * 23 + 18, 3 ** 3 is 23 + 4.
        self.assertEqual(offer_of(SETUP, 2, PERSON, 3), (9, 18, 4))

    def test_out_of_range(self):
        for secret in (0, *NO_EXPONENTS):
            with self.assertRaises(NotAllowed):
                offer_of(SETUP, secret, PERSON, 6)
        for w in NO_EXPONENTS:
            with self.assertRaises(NotAllowed):
                offer_of(SETUP, 8, PERSON, w)
        for person in NO_PEOPLE:
            with self.assertRaises(NotAllowed):
                offer_of(SETUP, 8, person, 6)


class RequestTest(unittest.TestCase):

    def test_by_the_rule(self):
        for setup in SETUPS:
            q = setup[0]
            for n, person in enumerate(usable_people(setup)[::7]):
                offer = hand_offer(setup, drawn(2, n, "x", 1, q), person, drawn(2, n, "w", 0, q))
                blinding = drawn_blinding(q, 2, n)
                self.assertEqual(request_of(setup, person, offer, blinding),
                                 hand_request(setup, person, offer, blinding))

    def test_the_ends_of_the_ranges(self):
        for blinding in ends_of_blindings(11):
            self.assertEqual(request_of(SETUP, PERSON, OFFER, blinding),
                             hand_request(SETUP, PERSON, OFFER, blinding))

    def test_any_elements_may_be_offered(self):
        for z in squares(11)[1:]:
            for a in squares(11):
                for b in (1, 4, 18):
                    self.assertEqual(request_of(SETUP, PERSON, (z, a, b), BLINDING),
                                     hand_request(SETUP, PERSON, (z, a, b), BLINDING))

    def test_it_is_never_0(self):
        sent = {request_of(SETUP, PERSON, OFFER, drawn_blinding(11, 3, n)) for n in range(200)}
        self.assertEqual(sorted(sent), list(range(1, 11)))

    def test_out_of_range(self):
        for person in NO_PEOPLE:
            with self.assertRaises(NotAllowed):
                request_of(SETUP, person, OFFER, BLINDING)
        for offer in no_offers():
            with self.assertRaises(NotAllowed):
                request_of(SETUP, PERSON, offer, BLINDING)
        for blinding in no_blindings():
            with self.assertRaises(NotAllowed):
                request_of(SETUP, PERSON, OFFER, blinding)


class GrantTest(unittest.TestCase):

    def test_by_the_rule(self):
        for secret in range(1, 11):
            for w in range(11):
                for c in range(11):
                    self.assertEqual(grant_of(SETUP, secret, w, c), (w + secret * c) % 11)
        self.assertEqual(grant_of(setup_of(1013, 1), 1012, 1012, 1012), 0)

    def test_out_of_range(self):
        for number in NO_EXPONENTS:
            for numbers in ((number, 3, 4), (8, number, 4), (8, 3, number)):
                with self.assertRaises(NotAllowed):
                    grant_of(SETUP, *numbers)
        with self.assertRaises(NotAllowed):
            grant_of(SETUP, 0, 3, 4)


class SessionTest(unittest.TestCase):

    def check_steps(self, setup, secret, person, w, blinding):
        by_hand = Session(setup, secret, person, w, blinding)
        key = key_of(setup, secret)
        offer = offer_of(setup, secret, person, w)
        c = request_of(setup, person, offer, blinding)
        r = grant_of(setup, secret, w, c)
        self.assertEqual((key, offer, c, r), (by_hand.key, by_hand.offer, by_hand.c, by_hand.r))
        self.assertEqual(ticket_of(setup, key, person, offer, blinding, r), by_hand.ticket)

    def test_sessions_step_by_step(self):
        for setup in (*SETUPS, setup_of(1013, 2)):
            q = setup[0]
            for n in range(30):
                person = (drawn(4, n, "number", 0, q), n % 5, n // 5 % 5)
                if hand_mark(setup, person) != 1:
                    self.check_steps(setup, drawn(4, n, "x", 1, q), person, drawn(4, n, "w", 0, q),
                                     drawn_blinding(q, 4, n))

    def test_w_0(self):
        for n in range(20):
            self.check_steps(SETUP, 1 + n % 10, PERSON, 0, drawn_blinding(11, 5, n))

    def test_the_ends_of_the_ranges(self):
        for blinding in ends_of_blindings(11):
            for secret in (1, 10):
                for w in (0, 10):
                    self.check_steps(SETUP, secret, PERSON, w, blinding)
                    self.check_steps(SETUP, secret, (10, 4, 4), w, blinding)

    def test_written_out(self):
        setup = setup_of(53, 7)
        self.assertEqual(setup, (53, (9, 12, 64, 81, 44)))
        offer = offer_of(setup, 8, (11, 2, 4), 30)
        blinding = (5, 9, 20, (1, 2, 3, 4))
        self.assertEqual((key_of(setup, 8), offer), (86, (79, 47, 85)))
        self.assertEqual(request_of(setup, (11, 2, 4), offer, blinding), 52)
        self.assertEqual(grant_of(setup, 8, 30, 52), (30 + 8 * 52) % 53)
        self.assertEqual(ticket_of(setup, 86, (11, 2, 4), offer, blinding, 22),
                         (10, 47, 47, 4, 9, 6))

    def test_kinds(self):
        self.assertIs(type(offer_of(SETUP, 8, PERSON, 6)), tuple)
        session = drawn_session(SETUP, 8, PERSON, 6, 1)
        ticket = ticket_of(SETUP, session.key, PERSON, session.offer, session.blinding, session.r)
        self.assertIs(type(ticket), tuple)


class TicketOfTest(unittest.TestCase):

    def setUp(self):
        self.session = Session(SETUP, 8, PERSON, 6, BLINDING)

    def test_just_the_r_that_was_sent(self):
        for n in range(10):
            session = drawn_session(SETUP, 1 + n, PERSON, 7, n)
            for r in range(11):
                arguments = (SETUP, session.key, PERSON, session.offer, session.blinding, r)
                if r == session.r:
                    self.assertEqual(ticket_of(*arguments), session.ticket)
                else:
                    with self.assertRaises(BadPaper):
                        ticket_of(*arguments)

    def test_an_r_that_is_made_with_another_secret(self):
        for secret in range(1, 11):
            if secret != 8:
                r = grant_of(SETUP, secret, 6, self.session.c)
                with self.assertRaises(BadPaper):
                    ticket_of(SETUP, self.session.key, PERSON, OFFER, BLINDING, r)

    def test_another_key(self):
        for key in squares(11)[1:]:
            if key != self.session.key:
                for r in range(11):
                    with self.assertRaises(BadPaper):
                        ticket_of(SETUP, key, PERSON, OFFER, BLINDING, r)

    def test_offers_changed_against_both_checks(self):
        right = 0
        for at in range(3):
            for number in squares(11)[1:]:
                offer = changed(OFFER, at, number)
                c = hand_request(SETUP, PERSON, offer, BLINDING)
                for r in range(11):
                    arguments = (SETUP, self.session.key, PERSON, offer, BLINDING, r)
                    if hand_checks(SETUP, self.session.key, PERSON, offer, c, r):
                        right += 1
                        self.assertEqual(ticket_of(*arguments),
                                         hand_ticket(SETUP, PERSON, offer, BLINDING, r))
                    else:
                        with self.assertRaises(BadPaper):
                            ticket_of(*arguments)
        self.assertGreater(right, 2)

    def test_an_offer_that_passes_one_check_only(self):
        # z and b are not those of the secret, so that only the check with the key holds.
        key, passed = self.session.key, 0
        for z in squares(11)[1:]:
            for b in squares(11):
                offer = (z, OFFER[1], b)
                r = grant_of(SETUP, 8, 6, hand_request(SETUP, PERSON, offer, BLINDING))
                if hand_checks(SETUP, key, PERSON, offer,
                               hand_request(SETUP, PERSON, offer, BLINDING), r):
                    passed += 1
                    ticket_of(SETUP, key, PERSON, offer, BLINDING, r)
                else:
                    with self.assertRaises(BadPaper):
                        ticket_of(SETUP, key, PERSON, offer, BLINDING, r)
        self.assertGreater(passed, 0)
        self.assertLess(passed, 60)

    def test_out_of_range(self):
        key, r = self.session.key, self.session.r
        for person in NO_PEOPLE:
            with self.assertRaises(NotAllowed):
                ticket_of(SETUP, key, person, OFFER, BLINDING, r)
        for offer in no_offers():
            with self.assertRaises(NotAllowed):
                ticket_of(SETUP, key, PERSON, offer, BLINDING, r)
        for blinding in no_blindings():
            with self.assertRaises(NotAllowed):
                ticket_of(SETUP, key, PERSON, OFFER, blinding, r)
        for number in (*NO_EXPONENTS, r + 11, r - 11):
            with self.assertRaises(NotAllowed):
                ticket_of(SETUP, key, PERSON, OFFER, BLINDING, number)

    def test_not_allowed_comes_ahead_of_bad_paper(self):
        key, wrong = self.session.key, (self.session.r + 1) % 11
        with self.assertRaises(BadPaper):
            ticket_of(SETUP, key, PERSON, OFFER, BLINDING, wrong)
        for person in NO_PEOPLE:
            with self.assertRaises(NotAllowed):
                ticket_of(SETUP, key, person, OFFER, BLINDING, wrong)
        for offer in no_offers():
            with self.assertRaises(NotAllowed):
                ticket_of(SETUP, key, PERSON, offer, BLINDING, wrong)
        for blinding in no_blindings():
            with self.assertRaises(NotAllowed):
                ticket_of(SETUP, key, PERSON, OFFER, blinding, wrong)
        for number in NO_EXPONENTS:
            with self.assertRaises(NotAllowed):
                ticket_of(SETUP, 2, PERSON, OFFER, BLINDING, number)

    def test_the_five_numbers_are_those_of_step_2(self):
        self.assertEqual(self.session.ticket[:5], hand_five(SETUP, PERSON, OFFER, BLINDING))


if __name__ == "__main__":
    unittest.main()
