import unittest

from cloak.errors import BadPaper, Missing, NotAllowed
from cloak.groups import setup_of
from cloak.spends import exposed, is_exposure, is_spend, spend_of
from helpers import changed, exponent_lists, squares
from sessions import (
    STRANGE, Session, drawn, drawn_blinding, drawn_session, hand_is_spend, hand_mark, hand_quotient,
    hand_spend, unusable_people, usable_people,
)

SETUP = (11, (4, 9, 3, 18, 2))
SETUPS = (SETUP, setup_of(23, 5), setup_of(53, 7), setup_of(1013, 2))
PERSON = (2, 1, 3)
BLINDING = (5, 9, 7, (1, 2, 3, 4))
SESSION = Session(SETUP, 8, PERSON, 6, BLINDING)
TICKET = SESSION.ticket
NO_EXPONENTS = (-1, 11, 12, -11, *STRANGE)
NO_ELEMENTS = (0, 5, 22, 23, 24, 27, -1, -4, *STRANGE)


def with_numbers(spend, change):
    """The spend with each of its numbers changed, one at a time."""
    d, answers = spend
    yield change(d), answers
    for at, answer in enumerate(answers):
        yield d, changed(answers, at, change(answer))


class SpendOfTest(unittest.TestCase):

    def test_by_the_rule(self):
        for setup in SETUPS:
            q = setup[0]
            for n in range(60):
                person = (drawn(1, n, "number", 0, q), n % 5, n // 5 % 5)
                for d in (0, 1, q - 1, drawn(1, n, "d", 0, q)):
                    blinding = drawn_blinding(q, 1, n)
                    self.assertEqual(spend_of(setup, person, blinding, d),
                                     hand_spend(setup, person, blinding, d))

    def test_the_ends_of_the_ranges(self):
        for person in ((0, 0, 0), (10, 4, 4), (0, 4, 0)):
            for s in (1, 10):
                for u in (1, 10):
                    for x in (0, 10):
                        blinding = (s, u, x, (x, x, x, 10 - x))
                        for d in (0, 1, 10):
                            self.assertEqual(spend_of(SETUP, person, blinding, d),
                                             hand_spend(SETUP, person, blinding, d))

    def test_written_out(self):
        # 1 + 3 * 5 is 16, 2 + 3 * 5 * 2 is 32, 3 + 3 * 5 is 18, 4 + 3 * 5 * 3 is 49.
        self.assertEqual(spend_of(SETUP, PERSON, BLINDING, 3), (3, (5, 10, 7, 5)))
        self.assertEqual(spend_of(SETUP, PERSON, BLINDING, 0), (0, (1, 2, 3, 4)))

    def test_u_and_v_do_not_matter(self):
        for u in range(1, 11):
            for v in range(11):
                self.assertEqual(spend_of(SETUP, PERSON, (5, u, v, (1, 2, 3, 4)), 3),
                                 (3, (5, 10, 7, 5)))

    def test_a_person_whose_mark_is_1(self):
        for person in unusable_people(SETUP):
            self.assertEqual(spend_of(SETUP, person, BLINDING, 7),
                             hand_spend(SETUP, person, BLINDING, 7))

    def test_out_of_range(self):
        for d in NO_EXPONENTS:
            with self.assertRaises(NotAllowed):
                spend_of(SETUP, PERSON, BLINDING, d)
        for number in (5, -1, 11, *STRANGE):
            for at in range(3):
                if at or number != 5:
                    with self.assertRaises(NotAllowed):
                        spend_of(SETUP, changed(PERSON, at, number), BLINDING, 3)
        for number in NO_EXPONENTS:
            others = [changed(BLINDING, at, number) for at in range(3)]
            others += [changed(BLINDING, 3, changed(BLINDING[3], at, number)) for at in range(4)]
            for blinding in others:
                with self.assertRaises(NotAllowed):
                    spend_of(SETUP, PERSON, blinding, 3)
        for at in (0, 1):
            with self.assertRaises(NotAllowed):
                spend_of(SETUP, PERSON, changed(BLINDING, at, 0), 3)

    def test_kinds(self):
        spend = spend_of(SETUP, PERSON, BLINDING, 3)
        self.assertEqual([type(spend), type(spend[1])], [tuple, tuple])


class IsSpendTest(unittest.TestCase):

    def test_spends_of_honest_people(self):
        for setup in SETUPS:
            q = setup[0]
            for n in range(10):
                person = (drawn(2, n, "number", 0, q), n % 5, n * 2 % 5)
                if hand_mark(setup, person) != 1:
                    session = drawn_session(setup, 1 + n, person, 2, n)
                    for d in (0, 1, q - 1, drawn(2, n, "d", 0, q)):
                        self.assertIs(is_spend(setup, session.ticket, session.spend(d)), True)

    def test_all_challenges_with_some_answers(self):
        accepted = 0
        for d in range(11):
            for r0, r1 in exponent_lists(11, 2):
                spend = (d, (r0, r1, 7, 5))
                expected = hand_is_spend(SETUP, TICKET, spend)
                self.assertIs(is_spend(SETUP, TICKET, spend), expected)
                accepted += expected
        self.assertEqual(accepted, 121)

    def test_only_a_and_b_of_the_ticket_matter(self):
        for at in range(2, 6):
            for number in (0, 5, 7, *STRANGE):
                self.assertIs(is_spend(SETUP, changed(TICKET, at, number), SESSION.spend(3)), True)

    def test_another_a_or_b(self):
        for at in (0, 1):
            for number in squares(11):
                ticket = changed(TICKET, at, number)
                self.assertIs(is_spend(SETUP, ticket, SESSION.spend(3)), number == TICKET[at])

    def test_a_1_is_an_element(self):
        ticket = changed(TICKET, 0, 1)
        self.assertIs(is_spend(SETUP, ticket, (7, BLINDING[3])), True)
        self.assertIs(is_spend(SETUP, ticket, (7, (2, 2, 3, 4))), False)

    def test_one_number_changed(self):
        for more in range(1, 11):
            for spend in with_numbers(SESSION.spend(3), lambda number: (number + more) % 11):
                self.assertIs(is_spend(SETUP, TICKET, spend), False)

    def test_numbers_out_of_range(self):
        for d in (0, 10, 3):
            for other in (11, -11, 22, *STRANGE):
                for spend in with_numbers(SESSION.spend(d), lambda number: number + other):
                    self.assertIs(is_spend(SETUP, TICKET, spend), False)
        self.assertIs(is_spend(SETUP, TICKET, SESSION.spend(10)), True)
        self.assertIs(is_spend(SETUP, TICKET, (-1, SESSION.spend(10)[1])), False)

    def test_an_a_or_b_that_is_no_element(self):
        for at in (0, 1):
            for number in (*NO_ELEMENTS, TICKET[at] + 23, TICKET[at] - 23, 23 - TICKET[at]):
                for d in (0, 3):
                    self.assertIs(
                        is_spend(SETUP, changed(TICKET, at, number), SESSION.spend(d)), False)


class ExposedTest(unittest.TestCase):

    def test_two_spends_of_a_person_expose_it_in_either_order(self):
        for setup in SETUPS:
            q = setup[0]
            for n in range(12):
                person = (drawn(3, n, "number", 0, q), n % 5, n * 2 % 5)
                if hand_mark(setup, person) == 1:
                    continue
                session = drawn_session(setup, 1 + n % 10, person, 3, n)
                d = drawn(3, n, "d", 0, q)
                first, second = session.spend(d), session.spend((d + 1 + n % 10) % q)
                for one, other in ((first, second), (second, first)):
                    self.assertEqual(exposed(setup, session.ticket, one, other), person)
                    self.assertIs(is_exposure(setup, session.ticket, one, other, person), True)

    def test_all_people_and_all_challenges(self):
        for person in usable_people(SETUP)[::9]:
            session = Session(SETUP, 8, person, 6, BLINDING)
            for d in range(11):
                for e in range(11):
                    if d != e:
                        self.assertEqual(
                            exposed(SETUP, session.ticket, session.spend(d), session.spend(e)), person)

    def test_with_the_same_challenge_spends_are_equal_and_expose_nobody(self):
        for d in range(11):
            self.assertEqual(spend_of(SETUP, PERSON, BLINDING, d), SESSION.spend(d))
            with self.assertRaises(Missing):
                exposed(SETUP, TICKET, SESSION.spend(d), SESSION.spend(d))
            self.assertIs(
                is_exposure(SETUP, TICKET, SESSION.spend(d), SESSION.spend(d), PERSON), False)

    def other_spends(self):
        """All accepted spends for the ticket with some answers, also of nobody."""
        for d in range(11):
            for r0, r1 in exponent_lists(11, 2):
                spend = (d, (r0, r1, 7, 5))
                if hand_is_spend(SETUP, TICKET, spend):
                    yield spend

    def test_accepted_spends_of_several_people_by_the_rule(self):
        first, errors = SESSION.spend(3), 0
        for second in self.other_spends():
            if second[0] == 3 or second[1][0] == first[1][0]:
                errors += 1
                with self.assertRaises(Missing):
                    exposed(SETUP, TICKET, first, second)
                self.assertIs(is_exposure(SETUP, TICKET, first, second, PERSON), False)
                continue
            lead, *rest = [a - b for a, b in zip(first[1], second[1])]
            expected = tuple(hand_quotient(11, part, lead) for part in rest)
            self.assertEqual(exposed(SETUP, TICKET, first, second), expected)
            self.assertEqual(exposed(SETUP, TICKET, second, first), expected)
            self.assertIs(is_exposure(SETUP, TICKET, first, second, expected), True)
        self.assertGreater(errors, 11)

    def test_equal_challenges_with_other_answers_and_equal_first_answers(self):
        first = SESSION.spend(3)
        others = [spend for spend in self.other_spends() if spend != first]
        same_challenge = [spend for spend in others if spend[0] == 3]
        same_answer = [spend for spend in others if spend[1][0] == first[1][0] and spend[0] != 3]
        self.assertTrue(same_challenge and same_answer)
        for second in same_challenge + same_answer:
            with self.assertRaises(Missing):
                exposed(SETUP, TICKET, first, second)
            with self.assertRaises(Missing):
                exposed(SETUP, TICKET, second, first)
            for numbers in exponent_lists(11, 3)[::100]:
                self.assertIs(is_exposure(SETUP, TICKET, first, second, tuple(numbers)), False)

    def test_a_spend_that_is_not_accepted_comes_ahead_of_missing(self):
        first, second = SESSION.spend(3), SESSION.spend(4)
        wrong = list(with_numbers(first, lambda number: (number + 1) % 11))
        wrong += list(with_numbers(first, lambda number: number + 11))
        wrong += list(with_numbers(first, lambda number: STRANGE[0]))
        for bad in wrong:
            for one, other in ((bad, second), (second, bad), (bad, first), (first, bad), (bad, bad)):
                with self.assertRaises(BadPaper):
                    exposed(SETUP, TICKET, one, other)
                self.assertIs(is_exposure(SETUP, TICKET, one, other, PERSON), False)
        for ticket in (changed(TICKET, 0, 5), changed(TICKET, 1, 0), changed(TICKET, 0, 1)):
            for one, other in ((first, second), (first, first)):
                with self.assertRaises(BadPaper):
                    exposed(SETUP, ticket, one, other)
                self.assertIs(is_exposure(SETUP, ticket, one, other, PERSON), False)

    def test_kinds(self):
        self.assertIs(type(exposed(SETUP, TICKET, SESSION.spend(3), SESSION.spend(4))), tuple)


class IsExposureTest(unittest.TestCase):

    def test_of_all_numbers_just_the_exposed_ones(self):
        first, second = SESSION.spend(3), SESSION.spend(4)
        found = [numbers for numbers in map(tuple, exponent_lists(11, 3))
                 if is_exposure(SETUP, TICKET, first, second, numbers)]
        self.assertEqual(found, [PERSON])

    def test_numbers_that_are_exposed_need_not_be_a_person(self):
        found = 0
        for r2, r3 in exponent_lists(11, 2):
            for r1 in range(11):
                second = (4, (0, r1, r2, r3))
                if hand_is_spend(SETUP, TICKET, second):
                    numbers = exposed(SETUP, TICKET, SESSION.spend(3), second)
                    found += max(numbers[1:]) > 4
                    self.assertIs(
                        is_exposure(SETUP, TICKET, SESSION.spend(3), second, numbers), True)
        self.assertGreater(found, 0)

    def test_numbers_out_of_range(self):
        first, second = SESSION.spend(3), SESSION.spend(4)
        for at in range(3):
            for more in (11, -11, 22, 11 * STRANGE[0] // 10, *STRANGE):
                numbers = changed(PERSON, at, PERSON[at] + more)
                self.assertIs(is_exposure(SETUP, TICKET, first, second, numbers), False)
            self.assertIs(is_exposure(SETUP, TICKET, first, second, changed(PERSON, at, -1)), False)
            self.assertIs(is_exposure(SETUP, TICKET, first, second, changed(PERSON, at, 11)), False)


if __name__ == "__main__":
    unittest.main()
