import unittest

from cloak.errors import NotAllowed
from cloak.pairs import AGES, ZONES, all_pairs, check_set, index_of, pair_at, set_text
from cloak.questions import read_question, set_of
from helpers import hand_coin

ALL = [(0, 0), (0, 1), (0, 2), (0, 3), (0, 4), (1, 0), (1, 1), (1, 2), (1, 3), (1, 4), (2, 0),
       (2, 1), (2, 2), (2, 3), (2, 4), (3, 0), (3, 1), (3, 2), (3, 3), (3, 4), (4, 0), (4, 1),
       (4, 2), (4, 3), (4, 4)]
OUTSIDE = (-1, -5, 5, 6, 25, 10 ** 1000, -10 ** 1000)
NO_PAIRS = [(number, 0) for number in OUTSIDE] + [(0, number) for number in OUTSIDE]
NO_PAIRS += [(4, number) for number in OUTSIDE] + [(1, -5), (-1, 5), (-1, 6), (5, -5), (-1, -1)]


def set_of_bits(bits):
    """The set of the pairs whose bit is 1."""
    return [pair for at, pair in enumerate(ALL) if bits >> at & 1]


def drawn_sets(many):
    """Sets with few and with many pairs."""
    for n in range(many):
        bits = hand_coin(1, n, "low") * 1000003 + hand_coin(1, n, "high")
        yield set_of_bits(bits)
        yield set_of_bits(bits & bits >> 3)
        yield set_of_bits(bits | bits >> 3)


class ConstantsTest(unittest.TestCase):

    def test_constants(self):
        self.assertEqual((AGES, ZONES), (5, 5))


class PairsTest(unittest.TestCase):

    def test_all_pairs_in_their_order(self):
        self.assertEqual(all_pairs(), ALL)

    def test_the_list_is_a_new_one(self):
        found = all_pairs()
        found.clear()
        self.assertEqual(all_pairs(), ALL)
        all_pairs().append((9, 9))
        all_pairs()[3] = (7, 7)
        self.assertEqual(all_pairs(), ALL)

    def test_indexes(self):
        for index, pair in enumerate(ALL):
            self.assertEqual(index_of(pair), index)
            self.assertEqual(pair_at(index), pair)
            self.assertIs(type(pair_at(index)), tuple)

    def test_what_is_no_pair(self):
        for pair in NO_PAIRS:
            with self.assertRaises(NotAllowed):
                index_of(pair)

    def test_what_is_no_index(self):
        for index in (-1, -25, 25, 26, 10 ** 1000, -10 ** 1000):
            with self.assertRaises(NotAllowed):
                pair_at(index)


class CheckSetTest(unittest.TestCase):

    def test_sets(self):
        for pairs in ([], ALL, [(0, 0)], [(4, 4)], [(0, 4), (1, 0)], [(0, 0), (4, 4)], *drawn_sets(200)):
            self.assertIsNone(check_set(pairs))

    def test_two_pairs(self):
        for first in ALL:
            for second in ALL:
                if first < second:
                    self.assertIsNone(check_set([first, second]))
                else:
                    with self.assertRaises(NotAllowed):
                        check_set([first, second])

    def test_a_pair_twice_or_out_of_order(self):
        for at in range(25):
            with self.assertRaises(NotAllowed):
                check_set(ALL[:at + 1] + ALL[at:])
            with self.assertRaises(NotAllowed):
                check_set(ALL + [ALL[at]])
        for at in range(24):
            with self.assertRaises(NotAllowed):
                check_set(ALL[:at] + [ALL[at + 1], ALL[at]] + ALL[at + 2:])
        with self.assertRaises(NotAllowed):
            check_set(ALL[::-1])

    def test_what_is_no_pair(self):
        for pair in NO_PAIRS:
            for pairs in ([pair], [pair] + ALL, ALL + [pair], [(0, 0), pair, (4, 4)],
                          sorted(ALL + [pair])):
                with self.assertRaises(NotAllowed):
                    check_set(pairs)
                with self.assertRaises(NotAllowed):
                    set_text(pairs)

    def test_lists_that_were_passed_stay(self):
        for pairs in ([], list(ALL), [(1, 0), (1, 4)], [(1, 4), (1, 0)], [(9, 9)]):
            before = list(pairs)
            for function in (check_set, set_text):
                try:
                    function(pairs)
                except NotAllowed:
                    pass
                self.assertEqual(pairs, before)


def of_age(age, *zones):
    return [(age, zone) for zone in zones]


class SetTextTest(unittest.TestCase):

    def test_the_example_of_the_document(self):
        self.assertEqual(set_text([(1, 0), (1, 4), (3, 2)]),
                         "age == 1 and (zone == 0 or zone == 4) or age == 3 and zone == 2")

    def test_written_out(self):
        self.assertEqual(set_text([]), "none")
        self.assertEqual(set_text(ALL), "any")
        self.assertEqual(set_text([(0, 0)]), "age == 0 and zone == 0")
        self.assertEqual(set_text([(4, 3)]), "age == 4 and zone == 3")
        self.assertEqual(set_text(of_age(2, 0, 1, 2, 3, 4)), "age == 2")
        self.assertEqual(set_text(of_age(2, 0, 4)), "age == 2 and (zone == 0 or zone == 4)")
        self.assertEqual(set_text(of_age(3, 1, 2, 3)),
                         "age == 3 and (zone == 1 or zone == 2 or zone == 3)")
        self.assertEqual(set_text(of_age(0, 0, 1, 3, 4)),
                         "age == 0 and (zone == 0 or zone == 1 or zone == 3 or zone == 4)")
        self.assertEqual(set_text(of_age(0, 2) + of_age(1, 0, 1, 2, 3, 4) + of_age(4, 1, 2)),
                         "age == 0 and zone == 2 or age == 1 or age == 4 and (zone == 1 or zone == 2)")
        self.assertEqual(set_text(ALL[:-5]), "age == 0 or age == 1 or age == 2 or age == 3")
        self.assertEqual(set_text(ALL[1:5] + ALL[10:]),
                         "age == 0 and (zone == 1 or zone == 2 or zone == 3 or zone == 4) or age == 2"
                         " or age == 3 or age == 4")

    def test_read_as_a_question_it_has_this_set(self):
        for pairs in ([], ALL, *[[pair] for pair in ALL], *drawn_sets(400)):
            text = set_text(pairs)
            if len(text) <= 300:
                self.assertEqual(set_of(read_question(text)), pairs)

    def test_each_set_of_zones_of_one_age(self):
        texts = set()
        for age in range(5):
            for bits in range(1, 32):
                pairs = [(age, zone) for zone in range(5) if bits >> zone & 1]
                self.assertEqual(set_of(read_question(set_text(pairs))), pairs)
                texts.add(set_text(pairs))
        self.assertEqual(len(texts), 155)

    def test_at_most_10_pairs_have_at_most_300_characters(self):
        # The length hangs on how many zones come up with each age, not on which.
        counts = [[]]
        for _ in range(5):
            counts = [[*count, zones] for count in counts for zones in range(6)]
        longest = 0
        for count in counts:
            pairs = [(age, zone) for age, zones in enumerate(count) for zone in range(zones)]
            if len(pairs) <= 10:
                text = set_text(pairs)
                longest = max(longest, len(text))
                self.assertEqual(set_of(read_question(text)), pairs)
        self.assertLessEqual(longest, 300)
        self.assertGreater(len(set_text([pair for pair in ALL if pair[1] != 2])), 300)

    def test_lists_that_are_no_sets(self):
        for pairs in ([(0, 0), (0, 0)], [(1, 0), (0, 0)], ALL + ALL, ALL[::-1], [(0, 5)], [(5, 0)]):
            with self.assertRaises(NotAllowed):
                set_text(pairs)


if __name__ == "__main__":
    unittest.main()
