import unittest
from itertools import combinations
from random import Random

from cloak.errors import Missing, NotAllowed
from cloak.ways import (
    best_option, count_assignments, count_ways, first_reason, keeps, shares, told,
)
from crowding import (
    ALL, EXAMPLE, YOUNG, drawn_crowds, drawn_use, full_crowd, hand_assignments, hand_possible, hand_ways,
)
from helpers import ErrorCase, changed

GREAT = 10 ** 30
FURTHER = (0, YOUNG, None)


def hand_needs(crowd, own, further, wishes):
    """The needs that count for a further use, by the use: (index, need)."""
    uses = (*crowd[1], further)
    needs = []
    for use in [*own, len(uses) - 1]:
        if uses[use][0] == further[0]:
            wanted = [least for pairs, least in wishes if pairs is None or pairs == uses[use][1]]
            needs.append((use, max(wanted + [0])))
    return needs


def hand_keeps(crowd, own, further, wishes):
    whole = (crowd[0], (*crowd[1], further))
    return all(len(hand_possible(whole, use)) >= need
               for use, need in hand_needs(crowd, own, further, wishes))


def hand_reasons(crowd, own, further, wishes):
    """All reasons, those with the fewest uses first."""
    members, uses = crowd
    those = [use for use in range(len(uses)) if uses[use][0] == further[0]]
    reasons = []
    for size in range(len(those) + 1):
        for row in sorted(list(row) for row in combinations(those, size)):
            part = (members, tuple(uses[use] for use in row))
            if not hand_keeps(part, [row.index(use) for use in row if use in own], further, wishes):
                reasons.append(row)
    return reasons


def drawn_case(crowd, seed):
    """Own uses, a further use and wishes for a crowd."""
    draw = Random(seed)
    members, uses = crowd
    own = draw.sample(range(len(uses)), draw.randrange(len(uses) + 1))
    further = drawn_use(draw, len(members), 3 if seed % 3 else 1)
    pool = [None, further[1], ALL, *[use[1] for use in uses]]
    wishes = [(draw.choice(pool), draw.randrange(len(members) + 1)) for _ in range(draw.randrange(4))]
    return own, further, wishes


def drawn_cases(many, *limits):
    return [(crowd, *drawn_case(crowd, seed)) for seed, crowd in enumerate(drawn_crowds(many, *limits))]


class CountTest(ErrorCase):

    def test_against_trying_all(self):
        for crowd in drawn_crowds(150, 4, 5, 3):
            assignments = hand_assignments(crowd)
            self.assertEqual(count_assignments(crowd), len(assignments))
            self.assertEqual(count_ways(crowd), sum(hand_ways(crowd, row) for row in assignments))
            for use in range(len(crowd[1])):
                wanted = [sum(hand_ways(crowd, row) for row in assignments if row[use] == member)
                          for member in range(len(crowd[0]))]
                self.assertEqual(shares(crowd, use), wanted)

    def test_the_example(self):
        self.assertEqual([count_assignments(EXAMPLE), count_ways(EXAMPLE), shares(EXAMPLE, 0)],
                         [4, 7, [4, 3, 0]])

    def test_no_uses_and_no_members(self):
        for members in ((), ((0, 0, (0, 0, 0)),), EXAMPLE[0]):
            self.assertEqual([count_assignments((members, ())), count_ways((members, ()))], [1, 1])
        crowd = ((), (FURTHER,))
        self.assertEqual([count_assignments(crowd), count_ways(crowd), shares(crowd, 0)], [0, 0, []])

    def test_full_crowds(self):
        # With one ticket each: lists of 8 different members out of 10.
        crowd = full_crowd(1)
        self.assertEqual([count_assignments(crowd), count_ways(crowd)], [1814400, 1814400])
        self.assertEqual(shares(crowd, 0), [181440] * 10)
        # With six tickets each: all lists, but those with 7 or 8 uses of one member; and
        # lists of 8 different tickets out of 60.
        crowd, ways = full_crowd(6, epoch=2), 1
        for n in range(8):
            ways *= 60 - n
        self.assertEqual(count_assignments(crowd), 10 ** 8 - 10 - 10 * 8 * 9)
        self.assertEqual(count_ways(crowd), ways)
        self.assertEqual(shares(crowd, 7), [ways // 10] * 10)
        self.assertEqual([count_assignments(full_crowd(0)), count_ways(full_crowd(0))], [0, 0])
        self.assertEqual(shares(full_crowd(0), 0), [0] * 10)

    def test_members_who_are_not_possible_have_no_share(self):
        for crowd in drawn_crowds(80):
            for use in range(len(crowd[1])):
                row = shares(crowd, use)
                self.assertEqual([member for member, ways in enumerate(row) if ways], hand_possible(crowd, use))
                self.assertEqual(sum(row), count_ways(crowd))

    def test_products_over_the_epochs(self):
        for crowd in drawn_crowds(120, 4, 5, 3)[2::3]:
            members, uses = crowd
            assignments = ways = 1
            for epoch in range(3):
                part = (members, tuple(use for use in uses if use[0] == epoch))
                assignments *= count_assignments(part)
                ways *= count_ways(part)
            self.assertEqual([count_assignments(crowd), count_ways(crowd)], [assignments, ways])

    def test_no_such_use(self):
        for use in (-1, -2, 2, 3, GREAT, -GREAT):
            self.check_raises(Missing, shares, EXAMPLE, use)
        self.check_raises(Missing, shares, ((), ()), 0)

    def test_a_new_list_each_time(self):
        shares(EXAMPLE, 0).clear()
        told(EXAMPLE, FURTHER).append(9)
        self.assertEqual([shares(EXAMPLE, 0), told(EXAMPLE, FURTHER)], [[4, 3, 0], [0, 1]])


class ToldTest(ErrorCase):

    def test_against_trying_all(self):
        for crowd, _, further, _ in drawn_cases(150):
            whole = (crowd[0], (*crowd[1], further))
            self.assertEqual(told(crowd, further), hand_possible(whole, len(crowd[1])))

    def test_the_example(self):
        self.assertEqual(told(EXAMPLE, FURTHER), [0, 1])
        self.assertEqual(told(EXAMPLE, (0, YOUNG, 1)), [1])
        self.assertEqual(told(EXAMPLE, (0, YOUNG, 2)), [])
        self.assertEqual(told(EXAMPLE, (2, YOUNG, None)), [])
        self.assertEqual(told(EXAMPLE, (1, ALL, None)), [2])
        self.assertEqual(told(((), ()), FURTHER), [])

    def test_seven_uses(self):
        members, uses = full_crowd(1)
        self.assertEqual(told((members, uses[:7]), uses[7]), list(range(10)))


class KeepsTest(ErrorCase):

    def test_against_trying_all(self):
        found = []
        for crowd, own, further, wishes in drawn_cases(300):
            answer = keeps(crowd, own, further, wishes)
            self.assertIs(answer, hand_keeps(crowd, own, further, wishes))
            found.append(answer)
        self.assertGreater(min(found.count(True), found.count(False)), 50)

    def test_wishes_that_concern_a_use(self):
        # FURTHER has two possible members, and the own use 1 has {0, 2} then: 0 is out of tickets for it, not 2.
        for wishes, answer in (([], True), ([(None, 0)], True), ([(YOUNG, 2)], True), ([(YOUNG, 3)], False),
                               ([(ALL, 10)], True), ([(YOUNG[:2], 10)], True), ([((), 9)], True),
                               ([(None, 2)], True), ([(None, 3)], False), ([(YOUNG, 1), (YOUNG, 3)], False),
                               ([(YOUNG, 3), (YOUNG, 1)], False), ([(YOUNG, 2), (None, 1)], True),
                               ([(None, 3), (YOUNG, 0)], False), ([(YOUNG, 0), (None, 3)], False)):
            self.assertIs(keeps(EXAMPLE, [], FURTHER, wishes), answer)

    def test_own_uses(self):
        # With FURTHER the use 0 keeps {0, 1}, and the use 1 {2} alone.
        self.assertEqual([hand_possible((EXAMPLE[0], (*EXAMPLE[1], FURTHER)), use) for use in range(3)],
                         [[0, 1], [0, 2], [0, 1]])
        pairs = ((0, 0), (3, 3))
        for own, least, answer in (([1], 2, True), ([1], 3, False), ([0], 3, True), ([], 3, True),
                                   ([0, 1], 3, False), ([1, 0], 3, False)):
            self.assertIs(keeps(EXAMPLE, own, FURTHER, [(pairs, least)]), answer)

    def test_own_uses_of_other_epochs_do_not_count(self):
        further = (1, ALL, None)
        self.assertEqual(told(EXAMPLE, further), [2])
        for own in ([], [0], [1], [0, 1]):
            self.assertIs(keeps(EXAMPLE, own, further, [(None, 1)]), True)
            self.assertIs(keeps(EXAMPLE, own, further, [(YOUNG, 10)]), True)
            self.assertIs(keeps(EXAMPLE, own, further, [(ALL, 2)]), False)
        self.assertIs(keeps(EXAMPLE, [0], FURTHER, [(YOUNG, 3)]), False)

    def test_without_an_assignment_nobody_is_possible(self):
        further = (2, ALL, None)
        members, uses = EXAMPLE
        crowd = (members, (*uses, (1, ((0, 0),), None)))
        self.assertIs(keeps(EXAMPLE, [], further, [(None, 1)]), True)
        self.assertIs(keeps(crowd, [], further, [(None, 1)]), False)
        self.assertIs(keeps(crowd, [0, 1], further, [(None, 0)]), True)
        self.assertIs(keeps(crowd, [0, 1], further, []), True)

    def test_full_crowds(self):
        members, uses = full_crowd(1)
        crowd = (members, uses[:7])
        self.assertIs(keeps(crowd, list(range(7)), uses[7], [(None, 10)]), True)
        few = (0, ALL[0:20:5], None)
        crowd = (members, (few, few, few, *uses[:4]))
        self.assertIs(keeps(crowd, [6, 5, 4], few, [(None, 4)]), True)
        self.assertIs(keeps(crowd, [6, 5, 4], few, [(ALL, 6)]), True)
        self.assertIs(keeps(crowd, [6, 5, 4], few, [(ALL, 7)]), False)

    def test_lists_that_were_passed_stay(self):
        own, wishes, options = [1, 0], [(YOUNG, 3), (None, 1)], [(5, FURTHER), (1, (0, YOUNG, 1))]
        keeps(EXAMPLE, own, FURTHER, wishes)
        first_reason(EXAMPLE, own, FURTHER, wishes)
        with self.assertRaises(Missing):
            best_option(EXAMPLE, own, options, wishes)
        self.assertEqual([own, wishes, options], [[1, 0], [(YOUNG, 3), (None, 1)],
                                                  [(5, FURTHER), (1, (0, YOUNG, 1))]])


class ReasonTest(ErrorCase):

    def test_against_trying_all(self):
        sizes = []
        for crowd, own, further, wishes in drawn_cases(300):
            reasons = hand_reasons(crowd, own, further, wishes)
            if reasons:
                self.assertEqual(first_reason(crowd, own, further, wishes), reasons[0])
                self.assertFalse(keeps(crowd, own, further, wishes))
                sizes.append(len(reasons[0]))
            else:
                self.check_raises(Missing, first_reason, crowd, own, further, wishes)
        self.assertGreater(len(set(sizes)), 2)

    def test_the_empty_list(self):
        self.assertEqual(first_reason(EXAMPLE, [], FURTHER, [(YOUNG, 3)]), [])
        self.assertEqual(first_reason(EXAMPLE, [0], FURTHER, [(None, 3)]), [])

    def test_the_fewest_uses_first(self):
        # The member 0 has two tickets: only both uses for it alone take them away.
        mine = (0, ((0, 0),), None)
        members = EXAMPLE[0]
        for uses, wanted in (((mine, mine), [0, 1]), ((FURTHER, mine, mine), [1, 2]),
                             ((mine, (1, ALL, None), mine, mine), [0, 2])):
            self.assertEqual(first_reason((members, uses), [], FURTHER, [(YOUNG, 2)]), wanted)
        her = (0, ((1, 0),), None)
        self.assertEqual(first_reason((members, (mine, mine, her)), [], FURTHER, [(YOUNG, 2)]), [2])
        self.assertEqual(first_reason((members, (her, mine, her)), [], FURTHER, [(YOUNG, 2)]), [0])

    def test_own_uses_are_only_those_of_the_list(self):
        # The wish is for the own use 0, which is told by the further use and the use 1 together.
        members = ((0, 0, (1, 0, 0)), (1, 0, (1, 0, 0)), (3, 3, (1, 0, 0)))
        crowd = (members, ((0, ALL, None), (0, ((1, 0),), None)))
        further = (0, ((0, 0),), None)
        self.assertEqual(first_reason(crowd, [0], further, [(ALL, 2)]), [0, 1])
        self.assertEqual(first_reason(crowd, [0], further, [(ALL, 3)]), [0])
        self.check_raises(Missing, first_reason, crowd, [1], further, [(ALL, 3)])
        self.check_raises(Missing, first_reason, crowd, [], further, [(ALL, 3)])

    def test_no_reason(self):
        self.check_raises(Missing, first_reason, EXAMPLE, [0, 1], FURTHER, [])
        self.check_raises(Missing, first_reason, EXAMPLE, [0, 1], FURTHER, [(None, 2)])
        # Only the uses of another epoch have no assignment.
        members, uses = EXAMPLE
        crowd, further = (members, (*uses, (1, ((0, 0),), None))), (2, ALL, None)
        self.assertIs(keeps(crowd, [], further, [(None, 1)]), False)
        self.check_raises(Missing, first_reason, crowd, [], further, [(None, 1)])

    def test_full_crowds(self):
        members, uses = full_crowd(1)
        self.check_raises(Missing, first_reason, (members, uses[:7]), list(range(7)), uses[7], [(None, 10)])
        few = (0, ALL[0:20:5], None)
        crowd = (members, (*uses[:3], few, few, few, few))
        self.assertEqual(first_reason(crowd, [0, 1, 2], few, [(few[1], 1)]), [3, 4, 5, 6])
        self.assertEqual(first_reason((members, (*uses[:4], few, few, few)), [0, 3], few, [(ALL, 7)]), [0, 4, 5, 6])

    def test_a_new_list(self):
        reason = first_reason(EXAMPLE, [], FURTHER, [(YOUNG, 3)])
        self.assertIs(type(reason), list)
        reason.append(7)
        self.assertEqual(first_reason(EXAMPLE, [], FURTHER, [(YOUNG, 3)]), [])


class OptionTest(ErrorCase):

    def test_against_trying_all(self):
        found = []
        for seed, (crowd, own, further, wishes) in enumerate(drawn_cases(200)):
            draw = Random(seed + 1000)
            options = [(draw.randrange(-1, 2), drawn_use(draw, len(crowd[0]), 2)) for _ in range(draw.randrange(5))]
            options.append((1, further))
            kept = [at for at, (_, use) in enumerate(options) if hand_keeps(crowd, own, use, wishes)]
            if kept:
                best = min(kept, key=lambda at: (options[at][0], at))
                self.assertEqual(best_option(crowd, own, options, wishes), best)
                found.append(best)
            else:
                self.check_raises(Missing, best_option, crowd, own, options, wishes)
        self.assertGreater(len(set(found)), 3)

    def test_costs(self):
        poor = (0, ((0, 0),), None)
        wishes = [(YOUNG, 2), (((0, 0),), 2)]
        for options, wanted in (([(5, FURTHER)], 0), ([(5, FURTHER), (4, FURTHER)], 1),
                                ([(5, FURTHER), (5, FURTHER)], 0), ([(9, FURTHER), (5, FURTHER), (5, FURTHER)], 1),
                                ([(0, poor), (7, FURTHER)], 1), ([(-GREAT, poor), (GREAT, FURTHER)], 1),
                                ([(0, FURTHER), (-1, FURTHER), (-1, FURTHER)], 1)):
            self.assertEqual(best_option(EXAMPLE, [], options, wishes), wanted)
        for options in ([], [(0, poor)], [(0, poor)] * 5):
            self.check_raises(Missing, best_option, EXAMPLE, [], options, wishes)

    def test_options_are_not_compared_beyond_their_costs(self):
        options = [(1, (0, YOUNG, 1)), (1, (0, YOUNG, None)), (1, (0, YOUNG, 0))]
        self.assertEqual(best_option(EXAMPLE, [], options, []), 0)
        self.assertEqual(best_option(EXAMPLE, [], options, [(YOUNG, 2)]), 1)


class NotAllowedTest(ErrorCase):

    def check_all(self, crowd, own, further):
        """All four functions raise NotAllowed, whatever the wishes are."""
        for wishes in ([], [(None, 10)]):
            self.check_raises(NotAllowed, keeps, crowd, own, further, wishes)
            self.check_raises(NotAllowed, first_reason, crowd, own, further, wishes)
            for options in ([(3, further)], [(1, further), (3, further)]):
                self.check_raises(NotAllowed, best_option, crowd, own, options, wishes)
        if not own:
            self.check_raises(NotAllowed, told, crowd, further)

    def test_eight_uses(self):
        for crowd in (full_crowd(6), full_crowd(0), full_crowd(1, ())):
            self.check_all(crowd, [], FURTHER)
            self.check_all(crowd, [0], FURTHER)
            self.check_raises(NotAllowed, best_option, crowd, [], [], [])
        for many in range(8):
            crowd = (full_crowd(6)[0], full_crowd(6)[1][:many])
            self.assertIs(keeps(crowd, list(range(many)), FURTHER, []), True)

    def test_further_uses_that_are_not_allowed(self):
        for further in ((-1, YOUNG, None), (3, YOUNG, None), (GREAT, YOUNG, None), (0, YOUNG[::-1], None),
                        (0, YOUNG + YOUNG, None), (0, ((0, 5),), None), (0, ((-1, 0),), None), (0, YOUNG, 3),
                        (0, YOUNG, -1), (0, YOUNG, GREAT)):
            self.check_all(EXAMPLE, [], further)
            self.check_all(EXAMPLE, [0, 1], further)
            for options in ([(1, FURTHER), (9, further)], [(9, further), (1, FURTHER)],
                            [(1, FURTHER), (1, further), (1, FURTHER)]):
                self.check_raises(NotAllowed, best_option, EXAMPLE, [], options, [])
        self.check_all(((), ()), [], (0, YOUNG, 0))

    def test_own_indexes_that_are_no_uses(self):
        for own in ([2], [-1], [0, 2], [3, 0], [0, -2], [GREAT], [-GREAT, 1]):
            self.check_all(EXAMPLE, own, FURTHER)
            self.check_all(EXAMPLE, own, (2, YOUNG, None))
            self.check_raises(NotAllowed, best_option, EXAMPLE, own, [], [])
        self.check_all((EXAMPLE[0], ()), [0], FURTHER)

    def test_what_is_allowed_at_its_ends(self):
        for further in ((0, (), None), (2, ALL, 2), (0, ((4, 4),), 0)):
            self.assertIs(keeps(EXAMPLE, [1, 0], further, []), True)
            self.assertEqual(best_option(EXAMPLE, [0], [(0, changed(further, 0, 1))], []), 0)


if __name__ == "__main__":
    unittest.main()
