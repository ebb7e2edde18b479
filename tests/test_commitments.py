import unittest

from cloak.choices import check_choice, check_paper, explain_paper, make_paper
from cloak.claims import check_claim, holds
from cloak.commitments import blind_of, claim_of, commit, value_choice, value_claim
from cloak.errors import NotAllowed
from cloak.groups import setup_of
from helpers import multiplied_all, squares

ENDLESS = 10 ** 5000
STRANGERS = (0, 5, 22, 23, 24, 27, -1, -4, 10 ** 40, ENDLESS, -ENDLESS)
NO_EXPONENTS = (-1, -11, 11, 12, 22, 10 ** 40, ENDLESS, -ENDLESS)
SETUP = (11, (4, 9, 3, 18, 2))


class CommitTest(unittest.TestCase):

    def test_by_multiplying(self):
        for setup in (SETUP, setup_of(23, 5), (11, (4, 4, 4, 4, 4)), setup_of(29, 1)):
            q, bases = setup
            for v in range(q):
                for r in range(q):
                    self.assertEqual(commit(setup, v, r), multiplied_all(q, bases[:2], (v, r)))

    def test_written_out(self):
        self.assertEqual(commit(SETUP, 0, 0), 1)
        self.assertEqual(commit(SETUP, 1, 0), 4)
        self.assertEqual(commit(SETUP, 0, 1), 9)
        # 4 ** 2 is 16, 9 ** 3 is 16 modulo 23, and 16 * 16 is 256 = 11 * 23 + 3.
        self.assertEqual(commit(SETUP, 2, 3), 3)

    def test_products_are_commitments_to_sums(self):
        for v in range(11):
            for r in range(11):
                for w, s in ((1, 0), (5, 7), (10, 10)):
                    self.assertEqual(commit(SETUP, v, r) * commit(SETUP, w, s) % 23,
                                     commit(SETUP, (v + w) % 11, (r + s) % 11))

    def test_the_order_is_the_limit(self):
        setup = setup_of(1013, 2)
        self.assertEqual(commit(setup, 1012, 1012),
                         multiplied_all(1013, setup[1][:2], (1012, 1012)))
        with self.assertRaises(NotAllowed):
            commit(setup, 1013, 0)
        with self.assertRaises(NotAllowed):
            commit(setup, 0, 1013)

    def test_what_is_no_exponent(self):
        for number in NO_EXPONENTS:
            for value, blind in ((number, 0), (0, number), (number, number)):
                with self.assertRaises(NotAllowed):
                    commit(SETUP, value, blind)


class BlindTest(unittest.TestCase):

    def test_the_only_blind_by_trying_all(self):
        for setup in (SETUP, setup_of(23, 5), (11, (4, 4, 4, 4, 4))):
            q = setup[0]
            for commitment in squares(q):
                for v in range(q):
                    blinds = [r for r in range(q) if commit(setup, v, r) == commitment]
                    self.assertEqual([blind_of(setup, commitment, v)], blinds)

    def test_a_great_order(self):
        setup = setup_of(1013, 2)
        for v, r in ((0, 0), (1012, 1012), (5, 700), (700, 5)):
            self.assertEqual(blind_of(setup, commit(setup, v, r), v), r)

    def test_what_is_no_element_or_exponent(self):
        for commitment in STRANGERS:
            with self.assertRaises(NotAllowed):
                blind_of(SETUP, commitment, 3)
        for value in NO_EXPONENTS:
            with self.assertRaises(NotAllowed):
                blind_of(SETUP, 16, value)
            with self.assertRaises(NotAllowed):
                blind_of(SETUP, 5, value)


class ClaimsTest(unittest.TestCase):

    def test_claim_of(self):
        for commitment in squares(11):
            self.assertEqual(claim_of(SETUP, commitment), (2, ((commitment, (4, 9)),)))
            self.assertIsNone(check_claim(11, claim_of(SETUP, commitment)))

    def test_it_holds_for_each_value_with_its_blind(self):
        for v in range(11):
            for r in range(11):
                self.assertIs(holds(11, claim_of(SETUP, 16), (v, r)), commit(SETUP, v, r) == 16)

    def test_value_claim(self):
        for commitment in squares(11):
            for v in range(11):
                count, equations = claim = value_claim(SETUP, commitment, v)
                self.assertIsNone(check_claim(11, claim))
                (y, bases), = equations
                self.assertEqual((count, bases), (1, (9,)))
                self.assertEqual(y * multiplied_all(11, (4,), (v,)) % 23, commitment)
                self.assertEqual([r for r in range(11) if holds(11, claim, (r,))],
                                 [blind_of(SETUP, commitment, v)])

    def test_written_out(self):
        # 16 / 4 ** 3 is 16 / 18; 18 * 9 is 162 = 7 * 23 + 1, and 16 * 9 is 144 = 6 * 23 + 6.
        self.assertEqual(value_claim(SETUP, 16, 3), (1, ((6, (9,)),)))
        self.assertEqual(value_claim(SETUP, 16, 0), (1, ((16, (9,)),)))

    def test_value_choice(self):
        values = [3, 0, 10, 3]
        choice = value_choice(SETUP, 16, values)
        self.assertEqual(choice, tuple(value_claim(SETUP, 16, v) for v in values))
        self.assertEqual(choice[0], choice[3])
        self.assertIs(type(choice), tuple)
        self.assertEqual(values, [3, 0, 10, 3])

    def test_lists_of_no_1_25_and_26_exponents(self):
        for many in (1, 2, 25):
            choice = value_choice(SETUP, 16, [k % 11 for k in range(many)])
            self.assertEqual(len(choice), many)
            self.assertIsNone(check_choice(11, choice))
        for many in (0, 26, 27):
            with self.assertRaises(NotAllowed):
                value_choice(SETUP, 16, [k % 11 for k in range(many)])
            with self.assertRaises(NotAllowed):
                value_choice(SETUP, 16, [4] * many)

    def test_commitments_that_are_no_elements(self):
        for commitment in STRANGERS:
            with self.assertRaises(NotAllowed):
                claim_of(SETUP, commitment)
            with self.assertRaises(NotAllowed):
                value_claim(SETUP, commitment, 3)
            for values in ([3], [0], [1, 2], []):
                with self.assertRaises(NotAllowed):
                    value_choice(SETUP, commitment, values)

    def test_values_that_are_no_exponents(self):
        for value in NO_EXPONENTS:
            with self.assertRaises(NotAllowed):
                value_claim(SETUP, 16, value)
            for values in ([value], [value, 1], [1, value], [1] * 24 + [value]):
                with self.assertRaises(NotAllowed):
                    value_choice(SETUP, 16, values)

    def test_a_paper_that_a_commitment_is_one_of_some_values(self):
        setup = setup_of(53, 7)
        values = [4, 9, 50, 9]
        choice = value_choice(setup, commit(setup, 50, 17), values)
        noise = ((5, (6,)), (7, (8,)), (0, (9,)), (10, (11,)))
        paper = make_paper(53, "age", choice, 2, (17,), noise)
        self.assertIsNone(check_paper(53, "age", choice, paper))
        for k, value in enumerate(values):
            blind = blind_of(setup, commit(setup, 50, 17), value)
            other = explain_paper(53, "age", choice, paper, k, (blind,))
            self.assertEqual(make_paper(53, "age", choice, k, (blind,), other), paper)


if __name__ == "__main__":
    unittest.main()
