import copy
import unittest

from cloak.errors import Missing, NotAllowed
from cloak.linear import count_solutions, rank, solutions
from helpers import exponent_lists, hand_coin

ENDLESS = 10 ** 5000

# Systems for the order 11, with the number of unknowns.
SYSTEMS = [
    (1, [], []),
    (1, [[0]], [0]),
    (1, [[0]], [3]),
    (1, [[4]], [3]),
    (1, [[4], [8]], [3, 6]),
    (1, [[4], [8]], [3, 7]),
    (2, [], []),
    (2, [[0, 0], [0, 0]], [0, 0]),
    (2, [[0, 5]], [4]),
    (2, [[3, 0]], [4]),
    (2, [[3, 7]], [4]),
    (2, [[3, 7], [6, 3]], [4, 8]),
    (2, [[3, 7], [6, 3]], [4, 9]),
    (2, [[3, 7], [6, 4]], [4, 8]),
    (2, [[0, 1], [1, 0]], [4, 8]),
    (2, [[1, 2], [3, 4], [4, 6]], [5, 6, 0]),
    (2, [[1, 2], [3, 4], [4, 6]], [5, 6, 1]),
    (3, [], []),
    (3, [[0, 0, 0]], [0]),
    (3, [[0, 0, 0]], [1]),
    (3, [[1, 0, 2], [0, 0, 0]], [5, 0]),
    (3, [[0, 2, 4]], [6]),
    (3, [[0, 0, 7], [0, 3, 1]], [1, 2]),
    (3, [[0, 1, 2], [3, 1, 4]], [6, 7]),
    (3, [[1, 2, 3], [4, 5, 6], [5, 7, 9]], [1, 2, 3]),
    (3, [[1, 2, 3], [4, 5, 6], [5, 7, 9]], [1, 2, 4]),
    (3, [[1, 2, 3], [4, 5, 6], [7, 8, 10]], [1, 2, 3]),
    (3, [[-1, 20, 3], [4, -17, 60], [11, 0, -22]], [-1, 200, 33]),
    (3, [[11, -11, 22]], [1]),
    (3, [[2, 4, 6], [1, 2, 3], [1, 2, 4], [0, 0, 1]], [2, 1, 9, 8]),
]


def coin_system(q, seed, unknowns, many, fitting):
    """A system with drawn rows, some of which are sums of others."""
    rows = [[hand_coin(seed, 100 * k + i, "row") % q for i in range(unknowns)]
            for k in range(many)]
    for k in range(2, many, 3):
        rows[k] = [a + 3 * b for a, b in zip(rows[k - 1], rows[k - 2])]
    solution = [hand_coin(seed, i, "x") % q for i in range(unknowns)]
    right = [sum(a * x for a, x in zip(row, solution)) for row in rows]
    return rows, right if fitting else [side + 1 for side in right]


def by_trying(q, unknowns, rows, right):
    """All solutions, by trying all lists of exponents."""
    return [x for x in exponent_lists(q, unknowns) if is_solution(q, rows, right, x)]


def is_solution(q, rows, right, x):
    return all((sum(a * b for a, b in zip(row, x)) - side) % q == 0
               for row, side in zip(rows, right))


def span(q, rows, unknowns):
    """All rows that can be made by adding multiples of rows."""
    found = {(0,) * unknowns}
    for row in rows:
        found = {tuple((a + k * b) % q for a, b in zip(known, row))
                 for known in found for k in range(q)}
    return found


def bound_unknowns(q, rows, unknowns):
    """The bound unknowns, by the words of the document."""
    return sorted({min(i for i in range(unknowns) if row[i]) for row in span(q, rows, unknowns)
                   if any(row)})


class SolutionsTest(unittest.TestCase):

    def test_the_examples_of_the_document(self):
        self.assertEqual(solutions(11, 3, [[1, 0, 2], [0, 0, 0]], [5, 0]),
                         ([5, 0, 0], [[0, 1, 0], [9, 0, 1]]))
        self.assertEqual(count_solutions(11, 3, [[1, 0, 2], [1, 0, 2]], [5, 6]), 0)

    def test_small_systems_by_trying_all_lists(self):
        for unknowns, rows, right in SYSTEMS:
            expected = by_trying(11, unknowns, rows, right)
            self.assertEqual(count_solutions(11, unknowns, rows, right), len(expected))
            if expected:
                self.check_all_solutions(11, unknowns, rows, right, expected)
            else:
                with self.assertRaises(Missing):
                    solutions(11, unknowns, rows, right)

    def check_all_solutions(self, q, unknowns, rows, right, expected):
        first, steps = solutions(q, unknowns, rows, right)
        made = [[(a + sum(k * step[i] for k, step in zip(times, steps))) % q
                 for i, a in enumerate(first)] for times in exponent_lists(q, len(steps))]
        self.assertEqual(sorted(made), expected)

    def test_first_solution_and_steps_by_the_words_of_the_document(self):
        for unknowns, rows, right in SYSTEMS:
            expected = by_trying(11, unknowns, rows, right)
            bound = bound_unknowns(11, rows, unknowns)
            self.assertEqual(rank(11, rows), len(bound))
            if expected:
                free = [i for i in range(unknowns) if i not in bound]
                first = [x for x in expected if not any(x[i] for i in free)]
                self.assertEqual(len(first), 1)
                steps = [x for i in free for x in by_trying(11, unknowns, rows, [0] * len(rows))
                         if [x[k] for k in free] == [int(k == i) for k in free]]
                self.assertEqual(solutions(11, unknowns, rows, right), (first[0], steps))

    def test_drawn_systems_of_two_unknowns_for_a_greater_order(self):
        for seed in range(20):
            for many in (1, 2, 3):
                for fitting in (True, False):
                    rows, right = coin_system(23, seed, 2, many, fitting)
                    expected = by_trying(23, 2, rows, right)
                    self.assertEqual(count_solutions(23, 2, rows, right), len(expected))
                    if expected:
                        self.check_all_solutions(23, 2, rows, right, expected)

    def test_no_rows(self):
        self.assertEqual(solutions(11, 1, [], []), ([0], [[1]]))
        self.assertEqual(solutions(11, 3, [], []),
                         ([0, 0, 0], [[1, 0, 0], [0, 1, 0], [0, 0, 1]]))
        self.assertEqual(count_solutions(11, 40, [], []), 11 ** 40)
        self.assertEqual(rank(11, []), 0)

    def test_zero_rows(self):
        self.assertEqual(solutions(11, 2, [[0, 11]] * 60, [0, -11] * 30), ([0, 0], [[1, 0], [0, 1]]))
        with self.assertRaises(Missing):
            solutions(11, 2, [[0, 11]] * 60, [0] * 59 + [1])
        self.assertEqual(count_solutions(11, 2, [[0, 0]], [10]), 0)
        self.assertEqual(rank(11, [[0, 11, -22]] * 3), 0)

    def test_exponents_below_0_and_beyond_the_order(self):
        self.assertEqual(solutions(11, 2, [[-1, 12]], [-3]), ([3, 0], [[1, 1]]))
        self.assertEqual(solutions(11, 2, [[10 ** 40, 22]], [10 ** 40]), ([1, 0], [[0, 1]]))
        many = ENDLESS - ENDLESS % 11
        self.assertEqual(solutions(11, 2, [[many + 1, many]], [many + 4]), ([4, 0], [[0, 1]]))

    def test_great_systems(self):
        for q, seed, unknowns, many in ((1013, 1, 40, 60), (11, 2, 40, 60), (113, 3, 40, 20),
                                        (53, 4, 20, 60), (1013, 5, 40, 1)):
            rows, right = coin_system(q, seed, unknowns, many, True)
            first, steps = solutions(q, unknowns, rows, right)
            self.assertTrue(is_solution(q, rows, right, first))
            for step in steps:
                self.assertTrue(is_solution(q, rows, [0] * many, step))
            self.assertEqual(len(steps), unknowns - rank(q, rows))
            self.assertEqual(count_solutions(q, unknowns, rows, right), q ** len(steps))
            self.assertTrue(all(0 <= x < q for row in [first] + steps for x in row))

    def test_great_systems_without_a_solution(self):
        rows, right = coin_system(1013, 6, 40, 60, True)
        right[59] += 1
        with self.assertRaises(Missing):
            solutions(1013, 40, rows, right)
        self.assertEqual(count_solutions(1013, 40, rows, right), 0)


class RankTest(unittest.TestCase):

    def test_small_ranks(self):
        self.assertEqual(rank(11, [[0, 0]]), 0)
        self.assertEqual(rank(11, [[0, 3]]), 1)
        self.assertEqual(rank(11, [[1, 2], [2, 4]]), 1)
        self.assertEqual(rank(11, [[1, 2], [2, 5]]), 2)
        self.assertEqual(rank(11, [[1, 2], [12, -9]]), 1)
        self.assertEqual(rank(11, [[0, 0, 1], [0, 1, 0], [1, 0, 0], [1, 1, 1]]), 3)

    def test_the_order_counts(self):
        self.assertEqual(rank(11, [[1, 0], [0, 11]]), 1)
        self.assertEqual(rank(23, [[1, 0], [0, 11]]), 2)

    def test_by_the_number_of_rows_that_can_be_made(self):
        for seed in range(12):
            rows, _ = coin_system(11, seed, 3, 1 + seed % 4, True)
            self.assertEqual(11 ** rank(11, rows), len(span(11, rows, 3)))

    def test_many_rows_and_unknowns(self):
        unit = [[int(i == k) for i in range(40)] for k in range(40)]
        self.assertEqual(rank(1013, unit + unit[:20]), 40)
        self.assertEqual(rank(1013, unit[5:] + [unit[7]] * 25), 35)


class NotAllowedTest(unittest.TestCase):

    def check(self, unknowns, rows, right):
        for function in (solutions, count_solutions):
            with self.assertRaises(NotAllowed):
                function(11, unknowns, rows, right)

    def test_numbers_of_unknowns(self):
        for unknowns in (0, -1, 41, ENDLESS, -ENDLESS):
            self.check(unknowns, [], [])
        self.check(0, [[]], [0])
        self.check(41, [[1] * 41], [0])
        self.assertEqual(count_solutions(11, 40, [[1] * 40], [0]), 11 ** 39)

    def test_numbers_of_rows(self):
        self.check(2, [[0, 0]] * 61, [0] * 61)
        self.assertEqual(count_solutions(11, 2, [[0, 0]] * 60, [0] * 60), 121)

    def test_numbers_of_exponents_in_a_row(self):
        for row in ([], [1], [1, 2, 3]):
            self.check(2, [row], [0])
            self.check(2, [[1, 1], row], [0, 0])
            self.check(2, [row, [1, 1]], [0, 0])

    def test_numbers_of_right_sides(self):
        self.check(2, [], [0])
        self.check(2, [[1, 1]], [])
        self.check(2, [[1, 1]], [0, 0])
        self.check(2, [[1, 1], [1, 2]], [0])

    def test_also_where_there_is_no_solution(self):
        self.check(2, [[0, 0]], [1, 1])
        self.check(2, [[0, 0], [0]], [1, 0])
        self.check(3, [[0, 0]], [1])
        self.check(2, [[0, 0]] * 61, [1] * 61)
        self.check(41, [[0] * 41], [1])


class ListsTest(unittest.TestCase):

    def test_the_lists_stay_as_they_are(self):
        for unknowns, rows, right in SYSTEMS:
            old_rows, old_right = copy.deepcopy(rows), list(right)
            count_solutions(11, unknowns, rows, right)
            rank(11, rows)
            try:
                solutions(11, unknowns, rows, right)
            except Missing:
                pass
            self.assertEqual((rows, right), (old_rows, old_right))

    def test_the_lists_that_are_returned_are_new_ones(self):
        rows, right = [[1, 0, 0], [0, 0, 1]], [4, 5]
        first, steps = solutions(11, 3, rows, right)
        first[0] = 9
        steps[0][0] = 9
        steps.append([1, 1, 1])
        self.assertEqual((rows, right), ([[1, 0, 0], [0, 0, 1]], [4, 5]))
        self.assertEqual(solutions(11, 3, rows, right), ([4, 0, 5], [[0, 1, 0]]))

    def test_kinds(self):
        found = solutions(11, 2, [[1, 2]], [3])
        self.assertEqual([type(part) for part in found], [list, list])
        self.assertIs(type(found), tuple)
        self.assertIs(type(found[1][0]), list)


if __name__ == "__main__":
    unittest.main()
