import unittest

from cloak.coins import challenge, challenge_of, coin, joined_text
from helpers import ORDERS, hand_coin

SIGNS = "".join(chr(code) for code in range(32, 127) if chr(code) != "%")


class CoinTest(unittest.TestCase):

    def test_the_empty_text_step_by_step(self):
        # 0 * 31 + 0 * 1009 + 11 = 11; then three times * 48271 + 12345.
        self.assertEqual(11 * 48271 + 12345, 543326)
        self.assertEqual((543326 * 48271 + 12345) % 2147483647, 457097927)
        self.assertEqual((457097927 * 48271 + 12345) % 2147483647, 1327057284)
        self.assertEqual(coin(0, 0, ""), 327057)

    def test_a_text_step_by_step(self):
        # 3 * 31 + 1 * 1009 + 11 = 1113; then a (97), a space (32), b (98).
        self.assertEqual(1113 * 263 + 98, 292817)
        self.assertEqual(292817 * 263 + 33, 77010904)
        self.assertEqual((77010904 * 263 + 99) % 2147483647, 926515028)
        self.assertEqual((926515028 * 48271 + 12345) % 2147483647, 312496511)
        self.assertEqual((312496511 * 48271 + 12345) % 2147483647, 593958298)
        self.assertEqual((593958298 * 48271 + 12345) % 2147483647, 2054327653)
        self.assertEqual(coin(3, 1, "a b"), 54327)

    def test_values_at_the_ends_of_seeds_and_n(self):
        self.assertEqual(coin(999999, 999999, ""), 592067)
        self.assertEqual(coin(0, 999999, " "), 484343)
        self.assertEqual(coin(999999, 0, "~"), 887050)
        self.assertEqual(coin(7, 2, "base"), 716926)
        self.assertEqual(coin(0, 11, "paper"), 378979)

    def test_all_signs_of_a_text(self):
        self.assertEqual(len(SIGNS), 94)
        self.assertEqual(coin(5, 6, SIGNS), 796367)
        for sign in SIGNS:
            self.assertEqual(coin(5, 6, sign), hand_coin(5, 6, sign), sign)

    def test_many_coins_by_the_rule(self):
        for seed in (0, 1, 31, 77777, 999999):
            for n in (0, 1, 112, 500000, 999999):
                for text in ("", "w", "base", "show gate 12 0 -3", SIGNS * 3):
                    value = coin(seed, n, text)
                    self.assertEqual(value, hand_coin(seed, n, text))
                    self.assertTrue(0 <= value <= 999999)

    def test_seed_n_and_the_order_of_the_characters_count(self):
        values = [coin(0, 1, "ab"), coin(1, 0, "ab"), coin(0, 1, "ba"), coin(0, 1, "ab ")]
        self.assertEqual(len(set(values)), 4)


class ChallengeTest(unittest.TestCase):

    def test_values(self):
        self.assertEqual(challenge(11, ""), 4)
        self.assertEqual(challenge(23, "show gate 1 2 3"), 12)
        self.assertEqual(challenge(113, ""), 94)
        self.assertEqual(challenge(1013, "show gate 1 2 3"), 411)

    def test_by_the_rule_for_all_orders(self):
        for q in ORDERS:
            for text in ("", " ", "~", "ticket 1 2 3 4 5", SIGNS):
                self.assertEqual(challenge(q, text), 1 + hand_coin(0, q, text) % (q - 1))

    def test_it_is_always_from_1_to_q_less_1_and_comes_to_all_of_these(self):
        for q in (11, 23, 53):
            found = {challenge(q, str(n)) for n in range(2000)}
            self.assertEqual(found, set(range(1, q)))

    def test_for_great_orders_it_is_in_range(self):
        for n in range(500):
            self.assertTrue(1 <= challenge(1013, str(n)) <= 1012)


class JoinedTextTest(unittest.TestCase):

    def test_the_example_of_the_document(self):
        self.assertEqual(joined_text("spend", [3, 0, 12]), "spend 3 0 12")

    def test_the_word_alone(self):
        self.assertEqual(joined_text("ticket", []), "ticket")
        self.assertEqual(joined_text("", []), "")

    def test_a_word_with_a_space_inside_or_behind(self):
        self.assertEqual(joined_text("show gate", [1]), "show gate 1")
        self.assertEqual(joined_text("paper ", [1, 2]), "paper  1 2")
        self.assertEqual(joined_text("", [7]), " 7")

    def test_integers_below_0_and_0(self):
        self.assertEqual(joined_text("a", [-1, 0, -120]), "a -1 0 -120")

    def test_great_integers(self):
        digits = "7" * 4000
        self.assertEqual(joined_text("a", [int(digits), -int(digits)]),
                         "a " + digits + " -" + digits)

    def test_the_list_stays_as_it_is(self):
        numbers = [3, -1, 0]
        joined_text("a", numbers)
        challenge_of(11, "a", numbers)
        self.assertEqual(numbers, [3, -1, 0])

    def test_challenge_of_is_the_challenge_of_the_joined_text(self):
        for q in ORDERS:
            self.assertEqual(challenge_of(q, "show a", [0, -5, 10 ** 30]),
                             challenge(q, "show a 0 -5 1" + "0" * 30))
            self.assertEqual(challenge_of(q, "word", []), challenge(q, "word"))

    def test_challenge_of_great_integers_is_in_range(self):
        self.assertTrue(1 <= challenge_of(11, "a", [10 ** 3999, -10 ** 3999]) <= 10)


if __name__ == "__main__":
    unittest.main()
