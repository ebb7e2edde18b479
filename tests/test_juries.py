import unittest
from itertools import combinations, permutations
from random import Random

from cloak.errors import BadForm, BadPaper, CloakError, Missing, NotAllowed, Used
from cloak.groups import logarithm, setup_of
from cloak.juries import (
    MAX_JURORS, MAX_WEIGHT, check_jury, deal, explain_dealing, fits, open_secret, seats_of,
)
from helpers import ErrorCase, changed, exponent_lists, multiplied, multiplied_all

GREAT = 10 ** 1000
SETUP = setup_of(53, 7)
SMALL = (11, (4, 9, 3, 18, 2))
JURY = ((2, 0, 3, 1), 3)
SECRET = [17, 40, 5]
BLINDS = [9, 0, 52]


def hand_value(q, polynomial, x):
    return sum(coefficient * x ** i for i, coefficient in enumerate(polynomial)) % q


def hand_commitment(setup, value, blind):
    return multiplied_all(setup[0], setup[1][:2], (value, blind))


def hand_deal(setup, jury, polynomial, blinds):
    q = setup[0]
    return ([hand_commitment(setup, value, blind) for value, blind in zip(polynomial, blinds)],
            [(x, hand_value(q, polynomial, x), hand_value(q, blinds, x)) for x in range(1, sum(jury[0]) + 1)])


def hand_fits(setup, commitments, paper):
    q = setup[0]
    x, value, blind = paper
    goal = 1
    for i, commitment in enumerate(commitments):
        goal = goal * multiplied(q, commitment, x ** i % q) % (2 * q + 1)
    return hand_commitment(setup, value, blind) == goal


def votes_of(jury, papers, jurors):
    """The votes of some jurors, with the papers of all seats."""
    votes = []
    for juror in jurors:
        before = sum(jury[0][:juror])
        votes.append((juror, tuple(papers[before:before + jury[0][juror]])))
    return votes


def drawn_jury(draw):
    weights = [draw.randrange(6) for _ in range(draw.randrange(1, 7))]
    while sum(weights) > 10:
        weights[weights.index(max(weights))] -= 1
    if sum(weights) == 0:
        weights[-1] = 1
    return tuple(weights), draw.randrange(1, sum(weights) + 1)


def drawn_lists(draw, q, many):
    """Two polynomials, for a dealing."""
    return [draw.randrange(q) for _ in range(many)], [draw.randrange(q) for _ in range(many)]


def other_paper(setup, paper):
    """Another paper of the same seat that fits where this one does."""
    q, bases = setup
    x, value, blind = paper
    # g ** e = g0, so e more of the value are as good as one more of the blind.
    return x, (value + logarithm(q, bases[0], bases[1])) % q, (blind - 1) % q


class CheckTest(ErrorCase):

    def test_juries(self):
        self.assertEqual([MAX_JURORS, MAX_WEIGHT], [6, 5])
        for weights in ((1,), (5,), (0, 1), (5, 5), (0, 5, 0, 5, 0, 0), (1,) * 6, (2, 2, 2, 2, 2), (5, 1, 1, 1, 1, 1)):
            for quorum in range(1, sum(weights) + 1):
                self.assertIsNone(check_jury((weights, quorum)))

    def test_what_is_no_jury(self):
        for weights, quorum in (((), 1), ((), 0), ((1,) * 7, 1), ((0,) * 6 + (1,), 1), ((-1,), 1), ((6,), 1),
                                ((3, -1), 1), ((1, 6), 2), ((0,), 1), ((0,), 0), ((0, 0), 1), ((5, 5, 1), 3),
                                ((4, 4, 3), 1), ((5,) * 6, 1), ((3,), 0), ((3,), 4), ((3,), -1), ((5, 5), 11),
                                ((5, 5), 0), ((3,), GREAT), ((3,), -GREAT), ((GREAT,), 1), ((1, -GREAT), 1),
                                ((2, -1, 2), 2), ((6, -1), 2)):
            self.check_raises(NotAllowed, check_jury, (weights, quorum))


class SeatsTest(ErrorCase):

    def test_written_out(self):
        self.assertEqual([seats_of(JURY, juror) for juror in range(4)], [[1, 2], [], [3, 4, 5], [6]])
        self.assertEqual(seats_of(((2, 0, 3), 4), 2), [3, 4, 5])
        self.assertEqual([seats_of(((0, 5, 5), 10), juror) for juror in range(3)],
                         [[], [1, 2, 3, 4, 5], [6, 7, 8, 9, 10]])

    def test_all_seats_one_after_another(self):
        for seed in range(60):
            jury = drawn_jury(Random(seed))
            self.assertIsNone(check_jury(jury))
            rows = [seats_of(jury, juror) for juror in range(len(jury[0]))]
            self.assertEqual(tuple(len(row) for row in rows), jury[0])
            self.assertEqual([x for row in rows for x in row], list(range(1, sum(jury[0]) + 1)))

    def test_no_such_juror(self):
        for juror in (-1, -2, -4, 4, 5, GREAT, -GREAT):
            self.check_raises(Missing, seats_of, JURY, juror)


class DealTest(ErrorCase):

    def test_by_the_rule(self):
        for seed in range(40):
            draw = Random(seed)
            jury = drawn_jury(draw)
            for setup in (SETUP, SMALL):
                f, b = drawn_lists(draw, setup[0], jury[1])
                dealing = deal(setup, jury, f, b)
                self.assertEqual(dealing, hand_deal(setup, jury, f, b))
                self.assertEqual([type(dealing), type(dealing[0]), type(dealing[1])], [tuple, list, list])
                self.assertTrue(all(fits(setup, dealing[0], paper) for paper in dealing[1]))

    def test_not_allowed(self):
        q = 53
        for wrong in ([], [1], [1, 2], [1, 2, 3, 4], [0] * 10, [0] * 11, [-1, 0, 0], [0, q, 0], [0, 0, q],
                      [GREAT, 0, 0], [0, 0, -GREAT]):
            self.check_raises(NotAllowed, deal, SETUP, JURY, wrong, BLINDS)
            self.check_raises(NotAllowed, deal, SETUP, JURY, SECRET, wrong)
            self.check_raises(NotAllowed, deal, SETUP, JURY, wrong, wrong)

    def test_lists_that_were_passed_stay_and_lists_are_new(self):
        f, b = list(SECRET), list(BLINDS)
        commitments, papers = deal(SETUP, JURY, f, b)
        commitments.clear()
        papers.clear()
        self.assertEqual([f, b, deal(SETUP, JURY, f, b)],
                         [SECRET, BLINDS, hand_deal(SETUP, JURY, SECRET, BLINDS)])


class FitsTest(ErrorCase):

    def test_all_papers_of_a_seat(self):
        commitments, papers = hand_deal(SMALL, ((3,), 2), [3, 5], [7, 1])
        for x in range(1, 11):
            found = [(x, *row) for row in exponent_lists(11, 2) if fits(SMALL, commitments, (x, *row))]
            self.assertEqual(found, [(x, *row) for row in exponent_lists(11, 2)
                                     if hand_fits(SMALL, commitments, (x, *row))])
            # One for each value.
            self.assertEqual([value for _, value, _ in found], list(range(11)))
        self.assertTrue(all(fits(SMALL, commitments, paper) for paper in papers))

    def test_papers_that_were_changed(self):
        commitments, papers = hand_deal(SETUP, JURY, SECRET, BLINDS)
        for paper in papers:
            self.assertIs(fits(SETUP, commitments, paper), True)
            for number in range(53):
                for at in (1, 2):
                    self.assertIs(fits(SETUP, commitments, changed(paper, at, number)), number == paper[at])
            other = other_paper(SETUP, paper)
            self.assertNotEqual(other, paper)
            self.assertIs(fits(SETUP, commitments, other), True)

    def test_commitments_of_any_number(self):
        for many in range(1, 11):
            commitments, papers = hand_deal(SETUP, ((5, 5), many), *drawn_lists(Random(many), 53, many))
            before = list(commitments)
            for paper in papers:
                self.assertIs(fits(SETUP, commitments, paper), True)
                wrong = changed(paper, 1, (paper[1] + 1) % 53)
                self.assertIs(fits(SETUP, commitments, wrong), False)
                for shorter in (commitments[1:], commitments[:-1]):
                    self.assertIs(fits(SETUP, shorter, paper), hand_fits(SETUP, shorter, paper))
            self.assertEqual(commitments, before)

    def test_two_papers_of_a_seat_tell_an_exponent(self):
        q, bases = SETUP
        _, value, blind = paper = (4, 20, 30)
        _, other_value, other_blind = other_paper(SETUP, paper)
        e = [e for e in range(q) if (value + e * blind - other_value - e * other_blind) % q == 0]
        self.assertEqual([multiplied(q, bases[0], one) for one in e], [bases[1]])


class OpenTest(ErrorCase):

    def setUp(self):
        self.commitments, self.papers = hand_deal(SETUP, JURY, SECRET, BLINDS)

    def opened(self, votes):
        return open_secret(SETUP, JURY, self.commitments, votes)

    def good(self, *jurors):
        return votes_of(JURY, self.papers, jurors)

    def check_votes(self, error, votes):
        self.check_raises(error, open_secret, SETUP, JURY, self.commitments, votes)

    def test_all_jurors_in_all_orders(self):
        for size in range(5):
            for jurors in permutations(range(4), size):
                if sum(JURY[0][juror] for juror in jurors) >= 3:
                    self.assertEqual(self.opened(self.good(*jurors)), 17)
                else:
                    self.check_votes(Missing, self.good(*jurors))

    def test_drawn_dealings(self):
        for seed in range(40):
            draw = Random(seed)
            jury = drawn_jury(draw)
            for setup in (SETUP, SMALL):
                f, b = drawn_lists(draw, setup[0], jury[1])
                commitments, papers = deal(setup, jury, f, b)
                for size in range(len(jury[0]) + 1):
                    for jurors in combinations(range(len(jury[0]) - 1, -1, -1), size):
                        votes = votes_of(jury, papers, jurors)
                        if sum(jury[0][juror] for juror in jurors) >= jury[1]:
                            self.assertEqual(open_secret(setup, jury, commitments, votes), f[0])
                        else:
                            self.check_raises(Missing, open_secret, setup, jury, commitments, votes)

    def test_no_votes(self):
        self.check_votes(Missing, [])
        self.check_votes(Missing, self.good(1))

    def test_the_papers_with_the_least_seats_count(self):
        # Papers that fit all the same, but belong to no polynomial together.
        q, papers = 53, list(self.papers)
        for at in (0, 2, 4):
            papers[at] = other_paper(SETUP, papers[at])
        for size in range(2, 5):
            for jurors in permutations(range(4), size):
                votes = votes_of(JURY, papers, jurors)
                least = sorted(paper for _, those in votes for paper in those)[:3]
                if len(least) == 3:
                    wanted = [f[0] for f in self.leading_through(q, [paper[:2] for paper in least])]
                    self.assertEqual([self.opened(votes)], wanted)

    def leading_through(self, q, points):
        """All polynomials of three coefficients through three points, the last two by trying."""
        found = []
        for second in range(q):
            for third in range(q):
                x, value = points[0]
                f = [(value - second * x - third * x * x) % q, second, third]
                if all(hand_value(q, f, at) == worth for at, worth in points):
                    found.append(f)
        return found

    def test_a_quorum_of_one_takes_the_first_seat(self):
        jury = ((1, 1), 1)
        commitments, papers = hand_deal(SETUP, jury, [5], [6])
        self.assertEqual(papers, [(1, 5, 6), (2, 5, 6)])
        papers[0] = other_paper(SETUP, papers[0])
        for jurors, wanted in (((0,), papers[0][1]), ((1,), 5), ((0, 1), papers[0][1]), ((1, 0), papers[0][1])):
            self.assertEqual(open_secret(SETUP, jury, commitments, votes_of(jury, papers, jurors)), wanted)

    def test_spoilt_votes(self):
        for at, juror in ((0, 2), (1, 0), (2, 3)):
            votes = [vote for vote in self.good(2, 0, 3)]
            papers = votes[at][1]
            wrong = {
                Missing: [(number, papers) for number in (-1, 4, 5, GREAT, -GREAT)],
                BadForm: [(juror, papers[1:]), (juror, papers + ((7, 1, 1),)), (juror, papers + papers),
                          (juror, ((papers[0][0] + 1, *papers[0][1:]),) + papers[1:]),
                          (juror, ((7, 1, 1),) * len(papers)), (juror, papers + ((0, 1, 1),)),
                          (juror, ())],
                BadPaper: [(juror, changed(papers, 0, changed(papers[0], n, (papers[0][n] + 1) % 53)))
                           for n in (1, 2)],
            }
            for number in (-1, 53, 54, GREAT, -GREAT):
                wrong[BadForm] += [(juror, changed(papers, k, changed(papers[k], n, number)))
                                   for n in (1, 2) for k in range(len(papers))]
            if len(papers) > 1:
                wrong[BadForm] += [(juror, papers[::-1]), (juror, papers[:-1])]
                wrong[BadPaper].append((juror, changed(papers, -1, changed(papers[-1], 1, (papers[-1][1] + 1) % 53))))
            for error, others in wrong.items():
                for vote in others:
                    self.check_votes(error, changed(votes, at, vote))

    def test_a_juror_twice(self):
        self.check_votes(Used, self.good(2, 2))
        self.check_votes(Used, self.good(0, 2, 3, 0))
        self.check_votes(Used, self.good(1, 1))
        self.check_votes(Used, self.good(0, 1, 2, 1))
        self.check_votes(Used, [*self.good(2, 0), (2, ())])
        self.check_votes(Used, [*self.good(2, 0), (2, ((9, 53, 53),))])

    def test_a_juror_without_seats(self):
        self.assertEqual(self.opened([(1, ()), *self.good(2)]), 17)
        for papers in (((1, 1, 1),), tuple(self.papers[:1])):
            self.check_votes(BadForm, [*self.good(2), (1, papers)])

    def test_the_first_spoilt_vote_counts(self):
        spoilt = {Missing: (9, ()), BadForm: (3, ()), Used: (0, ()),
                  BadPaper: (3, (changed(self.papers[5], 1, (self.papers[5][1] + 1) % 53),))}
        for (one, first), (_, second) in permutations(spoilt.items(), 2):
            self.check_votes(one, [*self.good(0), first, second])
            self.check_votes(one, [*self.good(0, 2), first, second])
            self.check_votes(one, [*self.good(0), first])
        # Within one vote, the form comes ahead of what fits.
        bad = changed(self.papers[2], 1, (self.papers[2][1] + 1) % 53)
        self.check_votes(BadForm, [(2, (bad, self.papers[3], changed(self.papers[4], 2, 53)))])
        self.check_votes(BadForm, [(2, (bad, self.papers[3]))])
        self.check_votes(BadPaper, [(2, (bad, *self.papers[3:5]))])

    def test_numbers_of_commitments(self):
        for commitments in ([], self.commitments[:2], self.commitments + [1], self.commitments * 2):
            for votes in ([], self.good(2), self.good(0, 2, 3), [(9, ())], self.good(2, 2), [(0, ())]):
                self.check_raises(NotAllowed, open_secret, SETUP, JURY, commitments, votes)

    def test_other_commitments(self):
        for at in range(3):
            commitments = changed(self.commitments, at, self.commitments[at] * SETUP[1][0] % 107)
            self.check_raises(BadPaper, open_secret, SETUP, JURY, commitments, self.good(2))

    def test_lists_that_were_passed_stay(self):
        votes, commitments = self.good(3, 2, 0), list(self.commitments)
        before = list(votes)
        self.assertEqual(open_secret(SETUP, JURY, commitments, votes), 17)
        self.assertEqual([votes, commitments], [before, self.commitments])


class ExplainTest(ErrorCase):

    def test_every_secret_explains_all(self):
        for seed in range(12):
            draw = Random(seed)
            jury = drawn_jury(draw)
            f, b = drawn_lists(draw, 53, jury[1])
            commitments, papers = hand_deal(SETUP, jury, f, b)
            known = papers[::-1][:jury[1] - 1]
            for secret in range(53):
                answer = explain_dealing(SETUP, commitments, known, secret)
                self.assertEqual([type(part) for part in (answer, *answer)], [tuple, list, list])
                other, blinds = answer
                self.assertEqual(other[0], secret)
                self.assertEqual(len(other), jury[1])
                self.assertTrue(all(number in range(53) for number in other + blinds))
                again, all_papers = hand_deal(SETUP, jury, other, blinds)
                self.assertEqual(again, commitments)
                self.assertTrue(all(paper in all_papers for paper in known))
            self.assertEqual(explain_dealing(SETUP, commitments, known, f[0]), (f, b))

    def test_just_one_dealing(self):
        commitments, papers = hand_deal(SMALL, ((3,), 2), [3, 5], [7, 1])
        for secret in range(11):
            found = [(f, b) for f in exponent_lists(11, 2) for b in exponent_lists(11, 2)
                     if f[0] == secret and (2, hand_value(11, f, 2), hand_value(11, b, 2)) == papers[1]
                     and hand_deal(SMALL, ((3,), 2), f, b)[0] == commitments]
            self.assertEqual([explain_dealing(SMALL, commitments, papers[1:2], secret)], found)

    def test_no_papers(self):
        commitments, _ = hand_deal(SETUP, ((3,), 1), [5], [6])
        for secret in range(53):
            (value,), (blind,) = explain_dealing(SETUP, commitments, [], secret)
            self.assertEqual([value, hand_commitment(SETUP, value, blind)], [secret, commitments[0]])

    def test_ten_commitments(self):
        f, b = drawn_lists(Random(1), 53, 10)
        commitments, papers = hand_deal(SETUP, ((5, 5), 10), f, b)
        for missing in range(10):
            known = papers[:missing] + papers[missing + 1:]
            self.assertEqual(explain_dealing(SETUP, commitments, known, f[0]), (f, b))

    def test_not_allowed(self):
        commitments, papers = hand_deal(SETUP, JURY, SECRET, BLINDS)
        wrong = changed(papers[1], 1, (papers[1][1] + 1) % 53)
        for known in ([], papers[:1], papers[:3], papers, [papers[0], papers[0]],
                      [papers[0], other_paper(SETUP, papers[0])], [wrong], [wrong, wrong], [wrong, papers[1]]):
            for secret in (0, 17, 53):
                self.check_raises(NotAllowed, explain_dealing, SETUP, commitments, known, secret)
        for secret in (-1, 53, 54, GREAT, -GREAT):
            self.check_raises(NotAllowed, explain_dealing, SETUP, commitments, papers[:2], secret)
            self.check_raises(NotAllowed, explain_dealing, SETUP, commitments, [papers[0], wrong], secret)
        for known in ([], papers[:1]):
            self.check_raises(NotAllowed, explain_dealing, SETUP, [], known, 0)

    def test_papers_that_do_not_fit(self):
        commitments, papers = hand_deal(SETUP, JURY, SECRET, BLINDS)
        for at in (0, 1):
            for n in (1, 2):
                wrong = changed(papers[at], n, (papers[at][n] + 1) % 53)
                for secret in (0, 17, 52):
                    self.check_raises(BadPaper, explain_dealing, SETUP, commitments,
                                      changed(papers[:2], at, wrong), secret)

    def test_other_papers_that_fit_open_other_secrets(self):
        commitments, papers = hand_deal(SETUP, JURY, SECRET, BLINDS)
        known = [other_paper(SETUP, papers[0]), papers[4]]
        for secret in range(53):
            f, b = explain_dealing(SETUP, commitments, known, secret)
            self.assertEqual(hand_deal(SETUP, JURY, f, b)[0], commitments)
            self.assertEqual([hand_deal(SETUP, JURY, f, b)[1][at] for at in (0, 4)], known)

    def test_lists_that_were_passed_stay(self):
        commitments, papers = hand_deal(SETUP, JURY, SECRET, BLINDS)
        known, before = papers[3:1:-1], list(commitments)
        copy = list(known)
        f, b = explain_dealing(SETUP, commitments, known, 3)
        f.clear()
        b.clear()
        self.assertEqual([known, commitments], [copy, before])


class TrueSecretTest(ErrorCase):

    def test_fewer_papers_than_the_quorum_open_nothing(self):
        commitments, papers = hand_deal(SETUP, JURY, SECRET, BLINDS)
        with self.assertRaises(CloakError):
            open_secret(SETUP, JURY, commitments, votes_of(JURY, papers, (0,)))


if __name__ == "__main__":
    unittest.main()
