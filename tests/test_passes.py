import unittest

from cloak.errors import NotAllowed
from cloak.groups import setup_of
from cloak.passes import check_person, mark_of
from helpers import multiplied_all
from sessions import GREAT, STRANGE, hand_mark, unusable_people, usable_people

SETUP = (11, (4, 9, 3, 18, 2))
SETUPS = (SETUP, (11, (4, 4, 4, 4, 4)), setup_of(23, 5), setup_of(53, 7))
STRANGERS = [(number, 1, 1) for number in (-1, 11, 12, -11, *STRANGE)]
STRANGERS += [(1, age, 1) for age in (-1, 5, 6, *STRANGE)]
STRANGERS += [(1, 1, zone) for zone in (-1, 5, 6, *STRANGE)]
STRANGERS += [(-1, 5, -1), (11, 0, 0), (0, 5, 0), (0, 0, 5), (10, 4, 5), (10, 5, 4), (11, 4, 4),
              (GREAT, GREAT, GREAT)]


class CheckPersonTest(unittest.TestCase):

    def test_all_people(self):
        for number in range(11):
            for age in range(5):
                for zone in range(5):
                    self.assertIsNone(check_person(SETUP, (number, age, zone)))

    def test_out_of_range(self):
        for person in STRANGERS:
            with self.assertRaises(NotAllowed):
                check_person(SETUP, person)

    def test_the_order_of_the_setup_is_the_limit(self):
        for q in (23, 1013):
            self.assertIsNone(check_person(setup_of(q, 1), (q - 1, 4, 4)))
            with self.assertRaises(NotAllowed):
                check_person(setup_of(q, 1), (q, 4, 4))

    def test_a_person_whose_mark_is_1_is_a_person(self):
        for setup in SETUPS:
            self.assertTrue(unusable_people(setup))
            for person in unusable_people(setup):
                self.assertIsNone(check_person(setup, person))


class MarkTest(unittest.TestCase):

    def test_by_multiplying(self):
        for setup in SETUPS:
            for person in usable_people(setup):
                self.assertEqual(mark_of(setup, person), hand_mark(setup, person))

    def test_written_out(self):
        # 9 * 3 ** 2 * 18 * 2 ** 3 is 9 * 9 * 18 * 8 = 11664 = 507 * 23 + 3.
        self.assertEqual(mark_of(SETUP, (2, 1, 3)), 3)
        self.assertEqual(mark_of(SETUP, (0, 0, 0)), 9)

    def test_a_great_order(self):
        setup = setup_of(1013, 2)
        for person in ((0, 0, 0), (1012, 4, 4), (1012, 0, 4), (500, 4, 0)):
            self.assertEqual(mark_of(setup, person),
                             multiplied_all(1013, setup[1][1:], (1, *person)))

    def test_out_of_range(self):
        for person in STRANGERS:
            with self.assertRaises(NotAllowed):
                mark_of(SETUP, person)

    def test_the_mark_1(self):
        for setup in SETUPS:
            for person in unusable_people(setup):
                with self.assertRaises(NotAllowed):
                    mark_of(setup, person)


if __name__ == "__main__":
    unittest.main()
