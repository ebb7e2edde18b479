import copy
import unittest

from cloak.claims import (
    MAX_EQUATIONS, MAX_UNKNOWNS, are_values, check_claim, claim_numbers, holds, known_values, traces,
)
from cloak.errors import BadPaper, NotAllowed
from cloak.groups import is_element
from helpers import changed, exponent_lists, hand_coin, multiplied, multiplied_all, squares

ENDLESS = 10 ** 5000
STRANGERS = (0, 5, 22, 23, 24, 27, -1, -4, 10 ** 40, ENDLESS, -ENDLESS)
OUT_OF_RANGE = (-1, 11, 12, -11, 10 ** 40, ENDLESS, -ENDLESS)


def claim_for(q, bases_of_equations, values):
    """The claim with these bases that holds for the values."""
    return len(values), tuple((multiplied_all(q, bases, values), tuple(bases))
                              for bases in bases_of_equations)


# Claims for the order 11, each with values for which it holds.
CLAIMS = [
    ((0, ((1, ()),)), ()),
    ((0, ((1, ()),) * 6), ()),
    (claim_for(11, [(4,)], (3,)), (3,)),
    (claim_for(11, [(4,), (9,)], (0,)), (0,)),
    (claim_for(11, [(1,), (9,)], (10,)), (10,)),
    (claim_for(11, [(4, 9), (9, 9)], (7, 2)), (7, 2)),
    (claim_for(11, [(4, 4)], (7, 2)), (7, 2)),
    (claim_for(11, [(4, 9, 3, 18, 2, 6, 8, 1)] * 6, (1, 2, 3, 4, 5, 6, 0, 10)),
     (1, 2, 3, 4, 5, 6, 0, 10)),
    (claim_for(11, [(4, 9, 3), (18, 2, 6), (8, 1, 12), (13, 16, 4), (2, 2, 2), (3, 1, 1)],
               (5, 0, 9)), (5, 0, 9)),
]


class CheckClaimTest(unittest.TestCase):

    def refused(self, claim):
        with self.assertRaises(NotAllowed):
            check_claim(11, claim)

    def test_the_constants(self):
        self.assertEqual((MAX_UNKNOWNS, MAX_EQUATIONS), (8, 6))

    def test_claims(self):
        for claim, _ in CLAIMS:
            self.assertIsNone(check_claim(11, claim))
        for count in range(9):
            for many in range(1, 7):
                self.assertIsNone(check_claim(11, (count, ((4, (9,) * count),) * many)))

    def test_a_claim_that_holds_for_no_values_is_one(self):
        self.assertIsNone(check_claim(11, (0, ((4, ()),))))
        self.assertIsNone(check_claim(11, (1, ((4, (1,)),))))

    def test_numbers_of_unknowns(self):
        self.refused((9, ((4, (9,) * 9),)))
        self.refused((10, ((4, (9,) * 10),)))
        self.refused((-1, ((4, ()),)))
        self.refused((ENDLESS, ((4, ()),)))
        self.refused((-ENDLESS, ((4, ()),)))

    def test_numbers_of_equations(self):
        for count in (0, 1, 8):
            self.refused((count, ()))
            self.refused((count, ((4, (9,) * count),) * 7))

    def test_too_many_or_too_few_bases_in_each_equation(self):
        for count in range(9):
            equations = ((4, (9,) * count),) * 3
            for at in range(3):
                self.refused((count, changed(equations, at, (4, (9,) * (count + 1)))))
                if count > 0:
                    self.refused((count, changed(equations, at, (4, (9,) * (count - 1)))))

    def test_what_is_no_element_in_each_place(self):
        claim = CLAIMS[8][0]
        count, equations = claim
        for value in STRANGERS:
            for k, (y, bases) in enumerate(equations):
                self.refused((count, changed(equations, k, (value, bases))))
                for i in range(count):
                    self.refused((count, changed(equations, k, (y, changed(bases, i, value)))))

    def test_an_element_of_another_order(self):
        self.assertIsNone(check_claim(23, (1, ((21, (14,)),))))
        self.refused((1, ((21, (14,)),)))


class ValuesTest(unittest.TestCase):

    def test_are_values(self):
        for claim, values in CLAIMS:
            self.assertIs(are_values(11, claim, values), True)
            self.assertIs(are_values(11, claim, (0,) * claim[0]), True)
            self.assertIs(are_values(11, claim, (10,) * claim[0]), True)

    def test_too_many_or_too_few(self):
        for claim, values in CLAIMS:
            for others in (values + (0,), values + (1, 1), values[:-1]):
                if len(others) != claim[0]:
                    self.assertIs(are_values(11, claim, others), False)
                    with self.assertRaises(NotAllowed):
                        holds(11, claim, others)

    def test_out_of_range_in_each_place(self):
        for claim, values in CLAIMS:
            for at in range(len(values)):
                for value in OUT_OF_RANGE:
                    others = changed(values, at, value)
                    self.assertIs(are_values(11, claim, others), False)
                    with self.assertRaises(NotAllowed):
                        holds(11, claim, others)

    def test_the_order_is_the_limit(self):
        claim = (1, ((4, (4,)),))
        self.assertEqual([are_values(23, claim, (v,)) for v in (10, 11, 22, 23)],
                         [True, True, True, False])


class HoldsTest(unittest.TestCase):

    def test_the_example_of_the_document(self):
        self.assertIs(holds(11, (1, ((18, (4,)),)), (3,)), True)

    def test_claims_that_hold(self):
        for claim, values in CLAIMS:
            self.assertIs(holds(11, claim, values), True)

    def test_by_multiplying_for_all_values(self):
        for claim, _ in CLAIMS:
            if claim[0] <= 2:
                for values in exponent_lists(11, claim[0]):
                    expected = all(y == multiplied_all(11, bases, values) for y, bases in claim[1])
                    self.assertIs(holds(11, claim, tuple(values)), expected)

    def test_no_unknowns(self):
        self.assertIs(holds(11, (0, ((1, ()),)), ()), True)
        self.assertIs(holds(11, (0, ((4, ()),)), ()), False)
        self.assertIs(holds(11, (0, ((1, ()), (4, ()))), ()), False)

    def test_each_equation_counts(self):
        (count, equations), values = CLAIMS[8]
        for k, (y, bases) in enumerate(equations):
            other = changed(equations, k, (y * 4 % 23, bases))
            self.assertIs(holds(11, (count, other), values), False)


class ClaimNumbersTest(unittest.TestCase):

    def test_the_example_of_the_document(self):
        self.assertEqual(claim_numbers((2, ((18, (4, 9)), (3, (9, 9))))), [2, 2, 18, 4, 9, 3, 9, 9])

    def test_other_claims(self):
        self.assertEqual(claim_numbers((0, ((1, ()),))), [0, 1, 1])
        self.assertEqual(claim_numbers((0, ((1, ()), (4, ())))), [0, 2, 1, 4])
        self.assertEqual(claim_numbers((1, ((18, (4,)),))), [1, 1, 18, 4])
        for claim, _ in CLAIMS:
            count, equations = claim
            expected = [count, len(equations)]
            for y, bases in equations:
                expected += [y] + list(bases)
            self.assertEqual(claim_numbers(claim), expected)

    def test_the_list_is_a_new_one(self):
        claim = CLAIMS[5][0]
        first = claim_numbers(claim)
        expected = list(first)
        first.append(5)
        first[0] = 7
        self.assertEqual(claim_numbers(claim), expected)


class TracesTest(unittest.TestCase):

    def test_written_out(self):
        # 4 ** 7 is 8 modulo 23, 18 ** 2 is 2, and 4 * 2 is 8.
        self.assertEqual(traces(11, (1, ((18, (4,)),)), 2, (7,)), [4])
        self.assertEqual(traces(11, (1, ((18, (4,)),)), 0, (7,)), [8])
        self.assertEqual(traces(11, (0, ((4, ()), (1, ()))), 1, ()), [6, 1])

    def test_by_multiplying(self):
        for claim, _ in CLAIMS:
            for c in range(11):
                for seed in range(5):
                    answers = tuple(hand_coin(seed, i, "a") % 11 for i in range(claim[0]))
                    found = traces(11, claim, c, answers)
                    self.assertEqual(len(found), len(claim[1]))
                    for t, (y, bases) in zip(found, claim[1]):
                        self.assertTrue(is_element(11, t))
                        self.assertEqual(t * multiplied(11, y, c) % 23,
                                         multiplied_all(11, bases, answers))

    def test_what_is_not_allowed(self):
        for claim, values in CLAIMS:
            for c in OUT_OF_RANGE:
                with self.assertRaises(NotAllowed):
                    traces(11, claim, c, values)
            for answers in (values + (0,), values[1:]):
                if len(answers) != claim[0]:
                    with self.assertRaises(NotAllowed):
                        traces(11, claim, 1, answers)
            for at in range(len(values)):
                for value in OUT_OF_RANGE:
                    with self.assertRaises(NotAllowed):
                        traces(11, claim, 1, changed(values, at, value))

    def test_the_list_is_a_new_one(self):
        claim, values = CLAIMS[7]
        first = traces(11, claim, 1, values)
        expected = list(first)
        first.clear()
        self.assertEqual(traces(11, claim, 1, values), expected)


class KnownValuesTest(unittest.TestCase):

    def pairs(self, values, noise, c, d):
        """Two pairs with the same traces, made with values and one noise."""
        return ((c, tuple((a + c * x) % 11 for a, x in zip(noise, values))),
                (d, tuple((a + d * x) % 11 for a, x in zip(noise, values))))

    def test_they_are_the_values_the_pairs_were_made_with(self):
        for claim, values in CLAIMS:
            noise = [hand_coin(9, i, "noise") % 11 for i in range(claim[0])]
            for c in range(11):
                for d in range(11):
                    first, second = self.pairs(values, noise, c, d)
                    if c != d:
                        found = known_values(11, claim, first, second)
                        self.assertEqual(found, values)
                        self.assertIs(type(found), tuple)
                        self.assertTrue(holds(11, claim, found))

    def test_all_pairs_of_a_small_claim(self):
        claim = claim_for(11, [(4,), (9,)], (6,))
        everything = [(c, (a,)) for c in range(11) for a in range(11)]
        for first in everything[::7]:
            for second in everything:
                if first[0] == second[0]:
                    with self.assertRaises(NotAllowed):
                        known_values(11, claim, first, second)
                elif traces(11, claim, *first) == traces(11, claim, *second):
                    self.assertEqual(known_values(11, claim, first, second), (6,))
                else:
                    with self.assertRaises(BadPaper):
                        known_values(11, claim, first, second)

    def test_pairs_of_one_exponent(self):
        claim, values = CLAIMS[5]
        first, second = self.pairs(values, (1, 2), 4, 4)
        with self.assertRaises(NotAllowed):
            known_values(11, claim, first, second)

    def test_one_exponent_is_told_ahead_of_traces_that_differ(self):
        with self.assertRaises(NotAllowed):
            known_values(11, CLAIMS[5][0], (4, (1, 2)), (4, (1, 3)))

    def test_traces_that_differ(self):
        claim, values = CLAIMS[5]
        first, second = self.pairs(values, (1, 2), 4, 5)
        for at in range(2):
            other = changed(second[1], at, (second[1][at] + 1) % 11)
            with self.assertRaises(BadPaper):
                known_values(11, claim, first, (5, other))
            with self.assertRaises(BadPaper):
                known_values(11, claim, (5, other), first)

    def test_just_one_trace_that_differs(self):
        claim = (2, ((multiplied_all(11, (4, 9), (7, 2)), (4, 9)), (4, (1, 1))))
        first, second = self.pairs((7, 2), (1, 2), 4, 5)
        with self.assertRaises(BadPaper):
            known_values(11, claim, first, second)

    def test_a_claim_without_unknowns(self):
        self.assertEqual(known_values(11, (0, ((1, ()),)), (3, ()), (4, ())), ())
        with self.assertRaises(BadPaper):
            known_values(11, (0, ((4, ()),)), (3, ()), (4, ()))

    def test_pairs_that_are_out_of_range_come_ahead_of_traces_that_differ(self):
        claim, values = CLAIMS[5]
        good, other = self.pairs(values, (1, 2), 4, 5)
        for differing in (good, other, (5, (0, 0))):
            bad = [(c, (1, 2)) for c in OUT_OF_RANGE]
            bad += [(6, (1, value)) for value in OUT_OF_RANGE]
            bad += [(6, (value, 1)) for value in OUT_OF_RANGE]
            bad += [(6, ()), (6, (1,)), (6, (1, 2, 3))]
            for pair in bad:
                with self.assertRaises(NotAllowed):
                    known_values(11, claim, pair, differing)
                with self.assertRaises(NotAllowed):
                    known_values(11, claim, differing, pair)


class OtherOrdersTest(unittest.TestCase):

    def test_a_claim_of_a_great_order(self):
        q = 1013
        bases = squares(q)[100:108]
        values = tuple(hand_coin(1, i, "v") % q for i in range(8))
        claim = claim_for(q, [bases, bases[::-1]], values)
        self.assertIsNone(check_claim(q, claim))
        self.assertTrue(holds(q, claim, values))
        noise = [hand_coin(2, i, "v") % q for i in range(8)]
        first = (1012, tuple((a + 1012 * x) % q for a, x in zip(noise, values)))
        second = (500, tuple((a + 500 * x) % q for a, x in zip(noise, values)))
        self.assertEqual(known_values(q, claim, first, second), values)
        self.assertEqual(traces(q, claim, *first), traces(q, claim, 0, tuple(noise)))

    def test_tuples_stay_as_they_are(self):
        old = copy.deepcopy(CLAIMS)
        for claim, values in CLAIMS:
            check_claim(11, claim)
            holds(11, claim, values)
            claim_numbers(claim)
        self.assertEqual(CLAIMS, old)


if __name__ == "__main__":
    unittest.main()
