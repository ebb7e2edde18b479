import unittest
from itertools import permutations
from random import Random

from cloak.errors import NotAllowed
from cloak.sharing import (
    MAX_POINTS, explain_shares, polynomial_of, secret_of, shares_of, value_at,
)
from helpers import ErrorCase, changed, exponent_lists

GREAT = 10 ** 1000
ORDERS = (11, 53, 1013)


def hand_value(q, polynomial, x):
    return sum(coefficient * x ** i for i, coefficient in enumerate(polynomial)) % q


def drawn_polynomial(q, seed, many):
    draw = Random(seed)
    return [draw.randrange(q) for _ in range(many)]


def leading_through(q, points, many):
    """All polynomials with so many coefficients that lead through the points, by trying."""
    return [polynomial for polynomial in exponent_lists(q, many)
            if all(hand_value(q, polynomial, x) == value for x, value in points)]


class ValueTest(ErrorCase):

    def test_by_the_rule(self):
        self.assertEqual(MAX_POINTS, 10)
        for q in ORDERS:
            for many in range(1, 11):
                polynomial = drawn_polynomial(q, many, many)
                for x in (*range(-12, 13), q, -q, 999, -999, 10 ** 40 + 7, -10 ** 40):
                    self.assertEqual(value_at(q, polynomial, x), hand_value(q, polynomial, x))

    def test_x_of_many_digits(self):
        for q in ORDERS:
            polynomial = drawn_polynomial(q, 1, 10)
            for x in (GREAT, -GREAT, GREAT + 5, 7 - GREAT):
                self.assertEqual(value_at(q, polynomial, x), hand_value(q, polynomial, x % q))

    def test_written_out(self):
        self.assertEqual([value_at(11, [3, 5], x) for x in (0, 1, 2, -1, 11)], [3, 8, 2, 9, 3])
        self.assertEqual([value_at(11, [0, 0, 1], x) for x in (0, 3, 10, -4)], [0, 9, 1, 5])
        self.assertEqual([value_at(11, [7], x) for x in (0, 1, GREAT)], [7, 7, 7])

    def test_what_is_no_polynomial(self):
        for q in ORDERS:
            for polynomial in ([], [0] * 11, [1] * 12, [-1], [q], [0, q], [-1, 0], [0] * 9 + [q], [GREAT],
                               [0, -GREAT], [1, 2, q + 1, 3]):
                for x in (0, 1, -5):
                    self.check_raises(NotAllowed, value_at, q, polynomial, x)
                for places in ([], [1], [1, 1]):
                    self.check_raises(NotAllowed, shares_of, q, polynomial, places)


class SharesTest(ErrorCase):

    def test_by_the_rule(self):
        for q in ORDERS:
            for many in range(1, 11):
                polynomial = drawn_polynomial(q, many, many)
                for places in ([], [1], [10], [3, 1, 2], list(range(1, 11)), list(range(10, 0, -1))):
                    self.assertEqual(shares_of(q, polynomial, places),
                                     [(x, hand_value(q, polynomial, x)) for x in places])

    def test_the_example(self):
        self.assertEqual(shares_of(11, [3, 5], [1, 2, 3]), [(1, 8), (2, 2), (3, 7)])

    def test_places(self):
        for places in ([0], [11], [-1], [1, 2, 0], [11, 1], [1, 1], [3, 5, 3], [10, 10], [GREAT], [1, -GREAT],
                       list(range(11)), list(range(1, 12)), [12]):
            self.check_raises(NotAllowed, shares_of, 11, [3, 5], places)
            self.check_raises(NotAllowed, shares_of, 1013, [3], places)

    def test_lists_that_were_passed_stay_and_lists_are_new(self):
        polynomial, places = [3, 5], [2, 1]
        shares_of(11, polynomial, places).clear()
        value_at(11, polynomial, 4)
        self.assertEqual([polynomial, places, shares_of(11, polynomial, places)],
                         [[3, 5], [2, 1], [(2, 2), (1, 8)]])


class PolynomialTest(ErrorCase):

    def test_as_many_shares_as_coefficients_give_it_back(self):
        for q in ORDERS:
            for many in range(1, 11):
                polynomial = drawn_polynomial(q, many + 20, many)
                for places in (list(range(1, many + 1)), list(range(10, 10 - many, -1)),
                               [1 + (k * 3) % 10 for k in range(many)]):
                    points = shares_of(q, polynomial, places)
                    self.assertEqual(polynomial_of(q, points), polynomial)
                    self.assertEqual(secret_of(q, points), polynomial[0])

    def test_more_shares_give_zeros_behind(self):
        for q in ORDERS:
            for many in range(1, 10):
                polynomial = drawn_polynomial(q, many + 40, many)
                points = shares_of(q, polynomial, list(range(1, 11)))
                self.assertEqual(polynomial_of(q, points), polynomial + [0] * (10 - many))
                self.assertEqual(secret_of(q, points[1:]), polynomial[0])

    def test_in_any_order(self):
        points = shares_of(53, [9, 50, 0, 7], [2, 5, 9, 10])
        for order in permutations(points):
            self.assertEqual(polynomial_of(53, list(order)), [9, 50, 0, 7])
            self.assertEqual(secret_of(53, list(order)), 9)

    def test_against_trying_all(self):
        for n in range(12):
            for many in (1, 2, 3):
                draw = Random(n)
                points = [(x, draw.randrange(11)) for x in draw.sample(range(1, 11), many)]
                found = leading_through(11, points, many)
                self.assertEqual([polynomial_of(11, points)], found)
                self.assertEqual(secret_of(11, points), found[0][0])

    def test_what_are_no_points(self):
        ten = [(x, 0) for x in range(1, 11)]
        self.assertEqual(polynomial_of(11, ten), [0] * 10)
        for points in ([], ten + [(1, 0)], ten + [(11, 0)], [(0, 0)], [(11, 0)], [(-1, 0)], [(1, 0), (1, 0)],
                       [(1, 0), (2, 0), (1, 5)], [(1, -1)], [(1, 11)], [(2, 3), (3, 11)], [(GREAT, 0)],
                       [(1, -GREAT)], [(3, 1), (12, 1)]):
            self.check_raises(NotAllowed, polynomial_of, 11, points)
            self.check_raises(NotAllowed, secret_of, 11, points)
            if points:
                self.check_raises(NotAllowed, explain_shares, 11, points, 0)

    def test_lists_that_were_passed_stay_and_lists_are_new(self):
        points = [(3, 7), (1, 8)]
        polynomial_of(11, points).clear()
        secret_of(11, points)
        explain_shares(11, points, 5).clear()
        self.assertEqual([points, polynomial_of(11, points)], [[(3, 7), (1, 8)], [3, 5]])


class ExplainTest(ErrorCase):

    def test_for_every_secret_just_one(self):
        for points in ([], [(1, 8)], [(10, 0), (4, 7)]):
            for secret in range(11):
                found = [polynomial for polynomial in leading_through(11, points, len(points) + 1)
                         if polynomial[0] == secret]
                self.assertEqual([explain_shares(11, points, secret)], found)

    def test_it_leads_through_the_points_and_has_the_secret(self):
        for q in (11, 53):
            for many in range(10):
                points = [(10 - k, value) for k, value in enumerate(drawn_polynomial(q, many, many))]
                for secret in range(q):
                    polynomial = explain_shares(q, points, secret)
                    self.assertEqual([len(polynomial), polynomial[0]], [many + 1, secret])
                    self.assertTrue(all(value in range(q) for value in polynomial))
                    self.assertEqual([(x, hand_value(q, polynomial, x)) for x, _ in points], points)

    def test_for_the_true_secret_it_is_the_polynomial(self):
        for q in ORDERS:
            for many in range(1, 11):
                polynomial = drawn_polynomial(q, many + 60, many)
                points = shares_of(q, polynomial, list(range(2, many + 1)))
                self.assertEqual(explain_shares(q, points, polynomial[0]), polynomial)

    def test_the_examples(self):
        self.assertEqual(explain_shares(11, [(1, 8)], 0), [0, 8])
        self.assertEqual(polynomial_of(11, [(3, 7), (1, 8)]), [3, 5])
        self.assertEqual(explain_shares(11, [], 7), [7])

    def test_not_allowed(self):
        points = [(x, 3) for x in range(1, 11)]
        self.assertEqual(explain_shares(11, points[:9], 3), [3] + [0] * 9)
        self.check_raises(NotAllowed, explain_shares, 11, points, 3)
        self.check_raises(NotAllowed, explain_shares, 11, points + points, 3)
        for secret in (-1, 11, 12, GREAT, -GREAT):
            for many in (0, 1, 9):
                self.check_raises(NotAllowed, explain_shares, 11, points[:many], secret)
        for at, wrong in ((0, (0, 3)), (4, (5, 11)), (8, (11, 3)), (8, (1, 3)), (2, (3, -1))):
            self.check_raises(NotAllowed, explain_shares, 11, changed(points[:9], at, wrong), 3)


if __name__ == "__main__":
    unittest.main()
