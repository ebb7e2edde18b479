import unittest

from cloak.coins import coin
from cloak.errors import NotAllowed
from cloak.groups import (
    GREATEST_ORDER, LEAST_ORDER, check_order, check_setup, inverse, is_element,
    is_exponent, is_prime, logarithm, power, product, product_of_powers, quotient, setup_of,
)
from helpers import ORDERS, changed, exponent_lists, multiplied, multiplied_all, squares

# More digits than Python writes out, so an error message must not try to.
ENDLESS = 10 ** 5000


def strangers(q):
    """Integers that are no elements."""
    p = 2 * q + 1
    found = squares(q)
    inside = [value for value in range(p) if value not in found]
    return inside + [-1, -4, -p, p, p + 1, p + 4, 2 * p, 10 ** 40, -10 ** 40, ENDLESS, -ENDLESS]


class OrderTest(unittest.TestCase):

    def test_the_constants(self):
        self.assertEqual((LEAST_ORDER, GREATEST_ORDER), (11, 1013))

    def test_all_integers_up_to_beyond_the_greatest_order(self):
        for q in range(-50, 2100):
            if q in ORDERS:
                self.assertIsNone(check_order(q))
            else:
                with self.assertRaises(NotAllowed, msg=str(q)):
                    check_order(q)

    def test_the_list_of_orders_by_dividing(self):
        def prime(n):
            return n > 1 and all(n % k for k in range(2, n))
        self.assertEqual(ORDERS, [q for q in range(11, 1014) if prime(q) and prime(2 * q + 1)])

    def test_prime_numbers_and_squares_of_such(self):
        self.assertEqual([n for n in range(-5, 60) if is_prime(n)],
                         [2, 3, 5, 7, 11, 13, 17, 19, 23, 29, 31, 37, 41, 43, 47, 53, 59])
        self.assertEqual([is_prime(n) for n in (121, 2021, 2027, 1849)], [False, False, True, False])

    def test_integers_that_are_no_orders(self):
        # 2, 3, 5 are too small, 1019 and 1031 too great; 13 and 17 are prime
        # numbers of which one more than the double is none; 15 and 33 are products.
        for q in (-11, 0, 1, 2, 3, 5, 13, 17, 15, 33, 121, 1019, 1031, 10 ** 30,
                  -10 ** 30, ENDLESS, -ENDLESS):
            with self.assertRaises(NotAllowed):
                check_order(q)


class ElementTest(unittest.TestCase):

    def test_just_the_squares_are_elements(self):
        for q in ORDERS:
            p = 2 * q + 1
            found = [value for value in range(-p, 2 * p) if is_element(q, value)]
            self.assertEqual(found, squares(q))
            self.assertEqual(len(found), q)

    def test_the_edges(self):
        for q in ORDERS:
            p = 2 * q + 1
            self.assertIs(is_element(q, 1), True)
            for value in (-1, 0, p - 1, p, p + 1, -p + 1, 10 ** 50 + 1, ENDLESS, -ENDLESS):
                self.assertIs(is_element(q, value), False)

    def test_exponents_from_0_to_q_less_1(self):
        self.assertEqual([x for x in range(-30, 40) if is_exponent(11, x)], list(range(11)))
        self.assertFalse(is_exponent(11, ENDLESS))


class PowerTest(unittest.TestCase):

    def test_the_example_of_the_document(self):
        self.assertEqual(power(11, 4, 13), 16)

    def test_by_multiplying_again_and_again(self):
        for q in (11, 23):
            for base in squares(q):
                for exponent in range(3 * q):
                    self.assertEqual(power(q, base, exponent), multiplied(q, base, exponent))

    def test_exponents_below_0_give_the_inverse(self):
        for q in (11, 29):
            for base in squares(q):
                for exponent in range(1, 2 * q + 2):
                    value = power(q, base, -exponent)
                    self.assertEqual(value * multiplied(q, base, exponent) % (2 * q + 1), 1)
                    self.assertTrue(is_element(q, value))

    def test_multiples_of_the_order_and_0_give_1(self):
        for q in ORDERS:
            for exponent in (0, q, -q, 7 * q, q * 10 ** 60, -q * 10 ** 60, q * ENDLESS):
                self.assertEqual(power(q, 4, exponent), 1)

    def test_exponents_of_many_digits(self):
        great = 10 ** 200 + 7
        for q in (11, 113, 1013):
            self.assertEqual(power(q, 9, great), multiplied(q, 9, great % q))
            self.assertEqual(power(q, 9, -great), multiplied(q, 9, -great % q))
            self.assertEqual(power(q, 9, ENDLESS + 1), multiplied(q, 9, (ENDLESS + 1) % q))

    def test_a_base_that_is_no_element(self):
        for q in (11, 23):
            for base in strangers(q):
                for exponent in (0, 1, -1, q):
                    with self.assertRaises(NotAllowed):
                        power(q, base, exponent)


class ProductTest(unittest.TestCase):

    def test_all_products_of_a_small_order(self):
        for first in squares(11):
            for second in squares(11):
                self.assertEqual(product(11, first, second), first * second % 23)

    def test_what_is_no_element_in_each_place(self):
        for value in strangers(11):
            with self.assertRaises(NotAllowed):
                product(11, value, 4)
            with self.assertRaises(NotAllowed):
                product(11, 4, value)
            with self.assertRaises(NotAllowed):
                product(11, value, value)

    def test_inverses(self):
        for q in ORDERS:
            for value in squares(q)[:60]:
                other = inverse(q, value)
                self.assertTrue(is_element(q, other))
                self.assertEqual(value * other % (2 * q + 1), 1)
        self.assertEqual(inverse(11, 1), 1)

    def test_no_inverse_of_what_is_no_element(self):
        for value in strangers(11):
            with self.assertRaises(NotAllowed):
                inverse(11, value)


class ProductOfPowersTest(unittest.TestCase):

    def test_by_multiplying(self):
        for exponents in exponent_lists(11, 3):
            self.assertEqual(product_of_powers(11, [4, 9, 3], exponents),
                             multiplied_all(11, [4, 9, 3], exponents))

    def test_exponents_of_any_kind(self):
        q = 53
        for exponents in ([-1, 0, 53], [-53, 54, 10 ** 100], [ENDLESS, -ENDLESS, -10 ** 60]):
            expected = multiplied_all(q, [4, 9, 16], [x % q for x in exponents])
            self.assertEqual(product_of_powers(q, [4, 9, 16], exponents), expected)

    def test_empty_lists(self):
        self.assertEqual(product_of_powers(11, [], []), 1)

    def test_lists_of_different_lengths(self):
        for bases, exponents in (([], [1]), ([4], []), ([4, 9], [1]), ([4], [1, 0]),
                                 ([4, 9, 3], [0, 0])):
            with self.assertRaises(NotAllowed):
                product_of_powers(11, bases, exponents)

    def test_what_is_no_element_wherever_it_stands(self):
        for at in range(3):
            for value in strangers(11):
                for exponents in ([1, 2, 3], [0, 0, 0], [11, -11, 22]):
                    with self.assertRaises(NotAllowed):
                        product_of_powers(11, changed([4, 9, 3], at, value), exponents)

    def test_the_lists_stay_as_they_are(self):
        bases, exponents = [4, 9, 3], [-1, 30, 10 ** 20]
        product_of_powers(11, bases, exponents)
        self.assertEqual((bases, exponents), ([4, 9, 3], [-1, 30, 10 ** 20]))


class LogarithmTest(unittest.TestCase):

    def test_the_example_of_the_document(self):
        self.assertEqual(logarithm(11, 4, 16), 2)

    def test_every_element_to_every_base(self):
        for q in (11, 23, 29):
            for base in squares(q)[1:]:
                found = [logarithm(q, base, value) for value in squares(q)]
                self.assertEqual(sorted(found), list(range(q)))
                for value, exponent in zip(squares(q), found):
                    self.assertEqual(multiplied(q, base, exponent), value)

    def test_the_value_1(self):
        for q in ORDERS:
            self.assertEqual(logarithm(q, 4, 1), 0)

    def test_the_greatest_order(self):
        for exponent in (1, 2, 500, 1011, 1012):
            self.assertEqual(logarithm(1013, 9, multiplied(1013, 9, exponent)), exponent)

    def test_the_base_1(self):
        for value in (1, 4):
            with self.assertRaises(NotAllowed):
                logarithm(11, 1, value)

    def test_what_is_no_element(self):
        for value in strangers(11):
            with self.assertRaises(NotAllowed):
                logarithm(11, value, 4)
            with self.assertRaises(NotAllowed):
                logarithm(11, value, 1)
            with self.assertRaises(NotAllowed):
                logarithm(11, 4, value)
            with self.assertRaises(NotAllowed):
                logarithm(11, 1, value)


class QuotientTest(unittest.TestCase):

    def test_the_example_of_the_document(self):
        self.assertEqual(quotient(11, 1, 3), 4)

    def test_exponents_below_0_and_beyond_the_order(self):
        for q in (11, 23):
            for first in range(-2 * q, 3 * q):
                for second in range(-2 * q, 3 * q):
                    if second % q != 0:
                        found = quotient(q, first, second)
                        self.assertTrue(0 <= found < q)
                        self.assertEqual((found * second - first) % q, 0)

    def test_exponents_of_many_digits(self):
        first, second = 10 ** 300 + 1, -10 ** 200 - 3
        for q in (11, 1013):
            found = quotient(q, first, second)
            self.assertTrue(0 <= found < q)
            self.assertEqual((found * second - first) % q, 0)

    def test_a_second_exponent_that_is_0_modulo_the_order(self):
        for q in (11, 1013):
            for second in (0, q, -q, 5 * q, q * 10 ** 40, q * ENDLESS):
                for first in (0, 1, q):
                    with self.assertRaises(NotAllowed):
                        quotient(q, first, second)


class SetupTest(unittest.TestCase):

    def test_the_bases_by_the_rule(self):
        for q in ORDERS:
            for seed in (0, 1, 7, 999999):
                exponents = [1 + coin(seed, i, "base") % (q - 1) for i in range(5)]
                bases = tuple(multiplied(q, 4, e) for e in exponents)
                self.assertEqual(setup_of(q, seed), (q, bases))

    def test_written_out(self):
        self.assertEqual(setup_of(53, 7), (53, (9, 12, 64, 81, 44)))
        self.assertEqual(setup_of(113, 3), (113, (26, 181, 144, 77, 167)))

    def test_they_are_setups(self):
        for q in ORDERS:
            for seed in range(40):
                setup = setup_of(q, seed)
                self.assertIsNone(check_setup(setup))
                self.assertEqual((type(setup), type(setup[1])), (tuple, tuple))

    def test_bases_may_be_equal(self):
        self.assertIsNone(check_setup((11, (4, 4, 4, 4, 4))))

    def test_a_number_that_is_no_order(self):
        for q in (-11, 0, 1, 5, 10, 13, 15, 1012, 1019, ENDLESS):
            with self.assertRaises(NotAllowed):
                check_setup((q, (4, 4, 4, 4, 4)))

    def test_another_order(self):
        # 13 is an element for the order 11, but not for 23; 21 just for 23.
        self.assertIsNone(check_setup((11, (4, 9, 3, 13, 2))))
        with self.assertRaises(NotAllowed):
            check_setup((23, (4, 9, 3, 13, 2)))
        self.assertIsNone(check_setup((23, (4, 9, 3, 21, 2))))
        with self.assertRaises(NotAllowed):
            check_setup((11, (4, 9, 3, 21, 2)))

    def test_a_base_that_is_1_or_no_element_in_each_place(self):
        for at in range(5):
            for value in [1] + strangers(11):
                with self.assertRaises(NotAllowed):
                    check_setup((11, changed((4, 9, 3, 18, 2), at, value)))

    def test_other_numbers_of_bases(self):
        for bases in ((), (4,), (4, 9, 3, 18), (4, 9, 3, 18, 2, 6)):
            with self.assertRaises(NotAllowed):
                check_setup((11, bases))


if __name__ == "__main__":
    unittest.main()
