import unittest
from itertools import combinations, product as all_lists

from cloak.crowds import (
    EPOCHS, MAX_MEMBERS, MAX_TICKETS, MAX_USES, blocking, check_crowd, first_assignment, is_blocking,
    is_eligible, possible, witness,
)
from cloak.errors import Missing, NotAllowed
from crowding import ALL, EXAMPLE, YOUNG, drawn_crowds, full_crowd, hand_assignments, hand_eligible, hand_possible
from helpers import ErrorCase, changed

GREAT = 10 ** 30
MEMBER = (1, 2, (1, 2, 3))
USE = (1, ((0, 4), (1, 2)), None)


def hand_is_blocking(crowd, use, member, row):
    """By the rule."""
    members, uses = crowd
    if not row or any(at not in range(len(uses)) for at in row) or row != sorted(set(row)):
        return False
    epochs = {uses[at][0] for at in row}
    if len(epochs) != 1:
        return False
    epoch, admitted = epochs.pop(), set()
    for at in row:
        admitted |= {m for m in range(len(members))
                     if hand_eligible(crowd, at, m) and (at != use or m == member)}
    return len(row) > sum(members[m][2][epoch] for m in admitted)


def places(crowd):
    return [(use, member) for use in range(len(crowd[1])) for member in range(len(crowd[0]))]


class CrowdCase(ErrorCase):

    def check_no_places(self, function, *more):
        for crowd in (EXAMPLE, *drawn_crowds(6)):
            members, uses = len(crowd[0]), len(crowd[1])
            for use in (-1, -uses, uses, uses + 1, GREAT, -GREAT):
                self.check_raises(Missing, function, crowd, use, 0, *more)
            for member in (-1, -members, members, members + 1, GREAT, -GREAT):
                self.check_raises(Missing, function, crowd, 0, member, *more)
        self.check_raises(Missing, function, ((), ()), 0, 0, *more)


class CheckTest(CrowdCase):

    def test_constants(self):
        self.assertEqual([MAX_MEMBERS, MAX_USES, MAX_TICKETS, EPOCHS], [10, 8, 6, 3])

    def test_crowds(self):
        crowds = [((), ()), ((MEMBER,), ()), ((), (USE,)), EXAMPLE, full_crowd(6), full_crowd(0, ()),
                  ((MEMBER,) * 10, (USE,) * 8), *drawn_crowds(30)]
        for crowd in crowds:
            self.assertIsNone(check_crowd(crowd))

    def test_numbers_of_members_and_uses(self):
        for members, uses in ((10, 8), (10, 0), (0, 8)):
            self.assertIsNone(check_crowd(((MEMBER,) * members, (USE,) * uses)))
        for members, uses in ((11, 8), (11, 0), (10, 9), (0, 9), (30, 30)):
            self.check_raises(NotAllowed, check_crowd, ((MEMBER,) * members, (USE,) * uses))

    def check_member(self, allowed, member):
        for members in ((member,), (MEMBER, member), (member, MEMBER)):
            if allowed:
                self.assertIsNone(check_crowd((members, (USE,))))
            else:
                self.check_raises(NotAllowed, check_crowd, (members, (USE,)))

    def check_use(self, allowed, use):
        for uses in ((use,), (USE, use), (use, USE)):
            if allowed:
                self.assertIsNone(check_crowd(((MEMBER,) * 3, uses)))
            else:
                self.check_raises(NotAllowed, check_crowd, ((MEMBER,) * 3, uses))

    def test_members(self):
        for number in (-GREAT, -2, -1, 0, 1, 4, 5, 6, 7, 8, GREAT):
            for at in (0, 1):
                self.check_member(0 <= number <= 4, changed(MEMBER, at, number))
            for at in range(3):
                self.check_member(0 <= number <= 6, changed(MEMBER, 2, changed((1, 2, 3), at, number)))
        for tickets in ((), (1,), (1, 1), (1, 1, 1, 1), (0,) * 6):
            self.check_member(False, changed(MEMBER, 2, tickets))

    def test_epochs_of_uses(self):
        for epoch in (-GREAT, -1, 0, 1, 2, 3, GREAT):
            self.check_use(epoch in (0, 1, 2), changed(USE, 0, epoch))

    def test_known_members(self):
        for known in (-GREAT, -3, -1, 0, 1, 2, 3, 9, 10, GREAT):
            self.check_use(known in (0, 1, 2), changed(USE, 2, known))
        self.check_raises(NotAllowed, check_crowd, ((), (changed(USE, 2, 0),)))

    def test_pairs_of_uses(self):
        for pairs in ((), ((0, 0),), ((4, 4),), ((0, 4), (1, 0)), ((0, 0), (4, 4)), ALL):
            self.check_use(True, changed(USE, 1, pairs))
        for pairs in (((0, 0), (0, 0)), ((1, 0), (0, 4)), ((0, 1), (0, 0)), ALL[::-1], ALL + ALL[:1], ((5, 0),),
                      ((0, 5),), ((-1, 0),), ((0, -1),), ((0, 0), (1, 5)), ((GREAT, 0),), ((0, -GREAT),),
                      ((),), ((0,),), ((0, 0, 0),), ((0, 0), (0, 1, 2))):
            self.check_use(False, changed(USE, 1, pairs))


class EligibleTest(CrowdCase):

    def test_by_the_rule(self):
        for crowd in (EXAMPLE, full_crowd(1), *drawn_crowds(60)):
            for use, member in places(crowd):
                self.assertIs(is_eligible(crowd, use, member), hand_eligible(crowd, use, member))

    def test_written_out(self):
        members = ((1, 2, (0, 0, 0)), (2, 1, (6, 6, 6)), (1, 2, (6, 6, 6)))
        uses = ((0, ((1, 2),), None), (0, ((1, 2),), 2), (0, ((1, 2),), 1), (0, (), None), (0, ALL, None))
        self.assertEqual([[is_eligible((members, uses), use, member) for member in range(3)] for use in range(5)],
                         [[True, False, True], [False, False, True], [False] * 3, [False] * 3, [True] * 3])

    def test_no_such_use_or_member(self):
        self.check_no_places(is_eligible)


class AssignmentTest(CrowdCase):

    def test_against_trying_all(self):
        for crowd in drawn_crowds(150):
            assignments = hand_assignments(crowd)
            nothing = [None] * len(crowd[1])
            self.assertEqual(first_assignment(crowd, nothing), assignments[0] if assignments else None)
            for use, member in places(crowd):
                wanted = [row for row in assignments if row[use] == member]
                self.assertEqual(first_assignment(crowd, changed(nothing, use, member)),
                                 wanted[0] if wanted else None)
                self.assertEqual(witness(crowd, use, member), wanted[0] if wanted else None)

    def test_all_that_can_be_fixed(self):
        for crowd in drawn_crowds(40, 3, 3, 2):
            assignments = hand_assignments(crowd)
            for fixed in all_lists((None, *range(len(crowd[0]))), repeat=len(crowd[1])):
                wanted = [row for row in assignments
                          if all(one in (None, member) for one, member in zip(fixed, row))]
                self.assertEqual(first_assignment(crowd, list(fixed)), wanted[0] if wanted else None)

    def test_no_uses_or_no_members(self):
        self.assertEqual(first_assignment(((), ()), []), [])
        self.assertEqual(first_assignment(((MEMBER,), ()), []), [])
        self.assertIsNone(first_assignment(((), (USE,)), [None]))

    def test_a_fixed_member_that_is_not_eligible(self):
        self.assertIsNone(first_assignment(EXAMPLE, [2, None]))
        self.assertIsNone(first_assignment(EXAMPLE, [None, 1]))
        self.assertEqual(first_assignment(EXAMPLE, [1, 2]), [1, 2])

    def test_fixed_lists_that_are_not_allowed(self):
        for fixed in ([], [None], [None] * 3, [0, 0, 0], [0, 3], [3, None], [-1, None], [None, -1], [GREAT, 0],
                      [None, -GREAT], [2, 3]):
            self.check_raises(NotAllowed, first_assignment, EXAMPLE, fixed)
        self.check_raises(NotAllowed, first_assignment, ((), (USE,)), [0])
        self.check_raises(NotAllowed, first_assignment, ((), ()), [None])

    def test_full_crowds(self):
        self.assertEqual(first_assignment(full_crowd(6), [None] * 8), [0] * 6 + [1] * 2)
        self.assertEqual(first_assignment(full_crowd(1), [None] * 8), list(range(8)))
        self.assertEqual(first_assignment(full_crowd(1), [None] * 7 + [0]), [*range(1, 8), 0])
        self.assertIsNone(first_assignment(full_crowd(1), [9] + [None] * 6 + [9]))
        self.assertIsNone(first_assignment(full_crowd(0), [None] * 8))
        self.assertEqual(witness(full_crowd(2), 0, 9), [9, 0, 0, 1, 1, 2, 2, 3])
        members, uses = full_crowd(1)
        # Five uses are for the four members (0, 0), (1, 0), (2, 0), (3, 0) alone.
        few = (2, ALL[0:20:5], None)
        self.assertIsNone(first_assignment((members, (few,) * 5), [None] * 5))
        self.assertEqual(first_assignment((members, ((2, ALL, None), *(few,) * 4)), [None] * 5),
                         [4, 0, 1, 2, 3])

    def test_lists_that_were_passed_stay_and_lists_are_new(self):
        fixed = [None, 0]
        first_assignment(EXAMPLE, fixed).append(5)
        self.assertEqual([fixed, first_assignment(EXAMPLE, fixed)], [[None, 0], [0, 0]])
        uses = [0, 1]
        is_blocking(EXAMPLE, 0, 0, uses)
        self.assertEqual(uses, [0, 1])

    def test_witness_of_no_such_use_or_member(self):
        self.check_no_places(witness)


class PossibleTest(CrowdCase):

    def test_against_trying_all(self):
        for crowd in drawn_crowds(150):
            for use in range(len(crowd[1])):
                self.assertEqual(possible(crowd, use), hand_possible(crowd, use))

    def test_the_examples(self):
        self.assertEqual([possible(EXAMPLE, 0), possible(EXAMPLE, 1), witness(EXAMPLE, 1, 2)],
                         [[0, 1], [0, 2], [0, 2]])
        self.assertEqual(EXAMPLE[1][0][1], YOUNG)

    def test_full_crowds(self):
        for tickets in (1, 6):
            for use in (0, 7):
                self.assertEqual(possible(full_crowd(tickets), use), list(range(10)))
        self.assertEqual(possible(full_crowd(0), 3), [])
        members, uses = full_crowd(1)
        few = (0, ALL[0:20:5], None)
        crowd = (members, (few, few, few, few, *uses[:4]))
        self.assertEqual([possible(crowd, 3), possible(crowd, 4)], [[0, 1, 2, 3], [4, 5, 6, 7, 8, 9]])

    def test_no_such_use(self):
        for use in (-1, -2, 2, 3, GREAT, -GREAT):
            self.check_raises(Missing, possible, EXAMPLE, use)
            self.check_raises(Missing, possible, ((), (USE, USE)), use)
        self.check_raises(Missing, possible, ((MEMBER,), ()), 0)
        self.assertEqual(possible(((), (USE,)), 0), [])

    def test_uses_of_other_epochs_have_nothing_to_do_with_it(self):
        for crowd in drawn_crowds(90):
            members, uses = crowd
            if hand_assignments(crowd):
                for at, use in enumerate(uses):
                    same = [k for k, other in enumerate(uses) if other[0] == use[0]]
                    alone = (members, tuple(uses[k] for k in same))
                    self.assertEqual(possible(crowd, at), possible(alone, same.index(at)))

    def test_without_an_assignment_in_another_epoch_nobody_is_possible(self):
        members, uses = EXAMPLE
        crowd = (members, (*uses, (2, ((0, 0),), None)))
        self.assertEqual([possible(crowd, use) for use in range(3)], [[], [], []])

    def test_further_uses_and_tickets(self):
        for crowd, more in zip(drawn_crowds(90), drawn_crowds(91)[1:]):
            members, uses = crowd
            richer = (tuple(changed(m, 2, tuple(min(6, t + n % 2) for t in m[2])) for n, m in enumerate(members)),
                      uses)
            further = (members, (*uses, *[changed(use, 2, None) for use in more[1][:2]]))
            for use in range(len(uses)):
                now = set(possible(crowd, use))
                self.assertLessEqual(now, set(possible(richer, use)))
                self.assertLessEqual(set(possible(further, use)), now)


class BlockingTest(CrowdCase):

    def test_possible_or_blocked_and_never_both(self):
        for crowd in drawn_crowds(150):
            for use, member in places(crowd):
                row = blocking(crowd, use, member)
                if member in hand_possible(crowd, use):
                    self.assertIsNone(row)
                else:
                    self.assertIs(type(row), list)
                    self.assertTrue(hand_is_blocking(crowd, use, member, row))
                    self.assertIs(is_blocking(crowd, use, member, row), True)

    def test_all_lists_against_the_rule(self):
        for crowd in drawn_crowds(60, 3, 4):
            many = len(crowd[1])
            rows = [list(row) for size in range(many + 1) for row in combinations(range(many), size)]
            for use, member in places(crowd):
                for row in rows:
                    self.assertIs(is_blocking(crowd, use, member, row),
                                  hand_is_blocking(crowd, use, member, row))

    def test_lists_that_do_not_block(self):
        # Nobody has a ticket: each list of uses of one epoch blocks.
        members = ((0, 0, (0, 0, 0)),)
        crowd = (members, ((0, ALL, None), (0, ALL, None), (1, ALL, None), (0, ALL, None), (1, ALL, None)))
        for row in ([0], [1], [0, 1], [0, 1, 3], [1, 3], [2], [4], [2, 4]):
            for use in range(5):
                self.assertIs(is_blocking(crowd, use, 0, row), True)
        for row in ([], [0, 0], [1, 0], [3, 1], [0, 1, 1], [0, 1, 0], [0, 2], [1, 2, 3], [2, 3], [5], [0, 5], [-1],
                    [-1, 0], [-5], [0, 1, 3, 5], [GREAT], [-GREAT, 0], [0, GREAT], [2, 4, 4], [4, 2]):
            for use in range(5):
                self.assertIs(is_blocking(crowd, use, 0, row), False)

    def test_just_as_many_uses_as_tickets_do_not_block(self):
        members = ((0, 0, (2, 0, 0)), (1, 1, (1, 0, 0)))
        crowd = (members, ((0, ALL, None),) * 3)
        self.assertIs(is_blocking(crowd, 0, 0, [0, 1, 2]), False)
        more = (members, crowd[1] + ((0, ALL, None),))
        self.assertIs(is_blocking(more, 0, 0, [0, 1, 2, 3]), True)
        self.assertIs(is_blocking(more, 0, 0, [0, 1, 2]), False)
        self.assertEqual(blocking(more, 0, 0), [0, 1, 2, 3])

    def test_only_the_member_is_admitted_for_the_use_itself(self):
        members = ((0, 0, (1, 0, 0)), (1, 1, (1, 0, 0)))
        crowd = (members, ((0, ALL, None), (0, ((0, 0),), None)))
        self.assertIs(is_blocking(crowd, 0, 0, [0, 1]), True)
        self.assertIs(is_blocking(crowd, 0, 1, [0, 1]), False)
        # A member that is not eligible for the use is not even admitted for it.
        self.assertIs(is_blocking(crowd, 1, 1, [1]), True)
        self.assertIs(is_blocking(crowd, 1, 1, [0, 1]), False)

    def test_lists_without_the_use_and_of_another_epoch(self):
        members = ((0, 0, (1, 1, 0)), (1, 1, (1, 0, 0)))
        crowd = (members, ((0, ALL, None), (1, ((1, 1),), None)))
        self.assertEqual([blocking(crowd, 0, 0), blocking(crowd, 0, 1)], [[1], [1]])
        self.assertIs(is_blocking(crowd, 0, 0, [1]), True)

    def test_full_crowds(self):
        for tickets in (1, 6):
            self.assertIsNone(blocking(full_crowd(tickets), 0, 9))
        row = blocking(full_crowd(0), 7, 9)
        self.assertTrue(hand_is_blocking(full_crowd(0), 7, 9, row))
        members, uses = full_crowd(1)
        few = (0, ALL[0:20:5], None)
        crowd = (members, (few, few, few, few, *uses[:4]))
        for member in range(4):
            row = blocking(crowd, 6, member)
            self.assertTrue(hand_is_blocking(crowd, 6, member, row))
            self.assertIs(is_blocking(crowd, 6, member, row), True)

    def test_no_such_use_or_member(self):
        self.check_no_places(blocking)
        for uses in ([], [0], [9], [-1, 5]):
            self.check_no_places(is_blocking, uses)


if __name__ == "__main__":
    unittest.main()
