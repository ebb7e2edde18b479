import unittest

from cloak.choices import (
    MAX_CLAIMS, check_choice, check_paper, choice_numbers, explain_paper, make_paper,
)
from cloak.claims import holds
from cloak.errors import BadForm, BadPaper, CloakError, NotAllowed
from helpers import changed, exponent_lists, hand_call, hand_coin, hand_paper, multiplied_all

ENDLESS = 10 ** 5000
OUT_OF_RANGE = (-1, 11, 12, -11, 10 ** 40, ENDLESS, -ENDLESS)

ONE = (1, ((18, (4,)),))
TWO = (2, ((18, (4, 9)), (3, (9, 9))))
NONE = (0, ((1, ()),))
FALSE = (0, ((4, ()),))
CHOICE = (ONE, TWO, NONE, FALSE)


def values_of(q, claim):
    """All values for which the claim holds."""
    return [tuple(x) for x in exponent_lists(q, claim[0]) if holds(q, claim, tuple(x))]


def drawn_noise(q, choice, index, seed):
    """A noise for the choice and the index."""
    return tuple(
        (0 if k == index else hand_coin(seed, k, "c") % q,
         tuple(hand_coin(seed, 10 * k + i, "a") % q for i in range(claim[0])))
        for k, claim in enumerate(choice))


def all_noises(q, choice, index):
    """All noises for the choice and the index."""
    many = sum(1 + claim[0] for claim in choice)
    for numbers in exponent_lists(q, many - 1):
        rest, noise = list(numbers), []
        for k, claim in enumerate(choice):
            c = 0 if k == index else rest.pop(0)
            noise.append((c, tuple(rest.pop(0) for _ in range(claim[0]))))
        yield tuple(noise)


def papers_of_the_form(q, choice):
    """All papers of the form."""
    for numbers in exponent_lists(q, sum(1 + claim[0] for claim in choice)):
        rest = list(numbers)
        yield tuple((rest.pop(0), tuple(rest.pop(0) for _ in range(claim[0]))) for claim in choice)


class CheckChoiceTest(unittest.TestCase):

    def test_choices(self):
        self.assertEqual(MAX_CLAIMS, 25)
        self.assertIsNone(check_choice(11, CHOICE))
        for many in range(1, 26):
            self.assertIsNone(check_choice(11, (ONE,) * many))

    def test_none_or_too_many(self):
        for many in (0, 26, 27, 100):
            with self.assertRaises(NotAllowed):
                check_choice(11, (ONE,) * many)

    def test_a_tuple_that_is_no_claim_in_each_place(self):
        bad = [(1, ()), (9, ((4, (4,) * 9),)), (1, ((5, (4,)),)), (1, ((4, (0,)),)), (0, ((4, (4,)),)),
               (-1, ((4, ()),)), (1, ((4, (4,)),) * 7)]
        for claim in bad:
            for at in range(25):
                with self.assertRaises(NotAllowed):
                    check_choice(11, changed((ONE,) * 25, at, claim))

    def test_a_choice_of_another_order(self):
        self.assertIsNone(check_choice(23, ((1, ((21, (4,)),)),)))
        with self.assertRaises(NotAllowed):
            check_choice(11, ((1, ((21, (4,)),)),))


class ChoiceNumbersTest(unittest.TestCase):

    def test_written_out(self):
        self.assertEqual(choice_numbers((ONE,)), [1, 1, 1, 18, 4])
        self.assertEqual(choice_numbers((TWO, NONE, ONE)),
                         [3, 2, 2, 18, 4, 9, 3, 9, 9, 0, 1, 1, 1, 1, 18, 4])
        self.assertEqual(choice_numbers((ONE,) * 25), [25] + [1, 1, 18, 4] * 25)

    def test_the_list_is_a_new_one(self):
        found = choice_numbers(CHOICE)
        expected = list(found)
        found.reverse()
        self.assertEqual(choice_numbers(CHOICE), expected)


class MakePaperTest(unittest.TestCase):

    def test_the_example_of_the_document(self):
        paper = make_paper(11, "hello", (ONE,), 0, (3,), ((0, (7,)),))
        self.assertIsNone(check_paper(11, "hello", (ONE,), paper))
        with self.assertRaises(BadForm):
            check_paper(11, "hello", (ONE,), ((paper[0][0], ()),))

    def test_written_out(self):
        # The noise (0, (7,)) has the trace 4 ** 7 = 8; the call is 7, 7 + 7 * 3 = 28.
        self.assertEqual(1 + hand_coin(0, 11, "paper hello 1 1 1 18 4 8") % 10, 7)
        self.assertEqual(make_paper(11, "hello", (ONE,), 0, (3,), ((0, (7,)),)), ((7, (6,)),))

    def test_by_the_rule(self):
        for seed in range(15):
            for text in ("", " ", "hello", "a ~ b", "9"):
                for index, claim in enumerate(CHOICE):
                    for values in values_of(11, claim):
                        noise = drawn_noise(11, CHOICE, index, seed)
                        paper = make_paper(11, text, CHOICE, index, values, noise)
                        self.assertEqual(paper, hand_paper(11, text, CHOICE, index, values, noise))
                        self.assertIsNone(check_paper(11, text, CHOICE, paper))

    def test_kinds(self):
        paper = make_paper(11, "", CHOICE, 0, (3,), drawn_noise(11, CHOICE, 0, 1))
        self.assertEqual([type(paper)] + [type(part) for part in paper], [tuple] * 5)
        self.assertTrue(all(type(answers) is tuple for _, answers in paper))

    def test_1_and_25_claims_of_a_great_order(self):
        q = 1013
        claim = (8, ((multiplied_all(q, [4] * 8, range(8)), (4,) * 8),) * 6)
        for many in (1, 25):
            choice = (claim,) * many
            noise = drawn_noise(q, choice, many - 1, 3)
            paper = make_paper(q, "great", choice, many - 1, tuple(range(8)), noise)
            self.assertIsNone(check_paper(q, "great", choice, paper))
            self.assertEqual(
                explain_paper(q, "great", choice, paper, many - 1, tuple(range(8))), noise)

    def test_an_index_that_there_is_not(self):
        for index in (-1, -4, 4, 5, ENDLESS, -ENDLESS):
            with self.assertRaises(NotAllowed):
                make_paper(11, "a", CHOICE, index, (3,), drawn_noise(11, CHOICE, 0, 1))
        for index in (-1, 1):
            with self.assertRaises(NotAllowed):
                make_paper(11, "a", (ONE,), index, (3,), ((0, (7,)),))

    def test_values_for_which_the_claim_does_not_hold(self):
        for index, claim in enumerate(CHOICE):
            noise = drawn_noise(11, CHOICE, index, 1)
            good = values_of(11, claim)
            for values in map(tuple, exponent_lists(11, claim[0])):
                if values not in good:
                    with self.assertRaises(NotAllowed):
                        make_paper(11, "a", CHOICE, index, values, noise)

    def test_what_are_no_values(self):
        noise = drawn_noise(11, CHOICE, 0, 1)
        for values in [(), (3, 0), (14,), (-8,)] + [(value,) for value in OUT_OF_RANGE]:
            with self.assertRaises(NotAllowed):
                make_paper(11, "a", CHOICE, 0, values, noise)

    def test_noise_of_another_form(self):
        for index, values in ((0, (3,)), (1, values_of(11, TWO)[0]), (2, ())):
            noise = drawn_noise(11, CHOICE, index, 1)
            for other in other_forms(noise):
                with self.assertRaises(NotAllowed):
                    make_paper(11, "a", CHOICE, index, values, other)

    def test_noise_whose_exponent_for_the_claim_is_not_0(self):
        for index, values in ((0, (3,)), (1, values_of(11, TWO)[0]), (2, ())):
            noise = drawn_noise(11, CHOICE, index, 1)
            for c in range(1, 11):
                with self.assertRaises(NotAllowed):
                    make_paper(11, "a", CHOICE, index, values,
                               changed(noise, index, (c, noise[index][1])))


def other_forms(paper):
    """Papers that differ from a paper of the form so that they do not have it."""
    yield ()
    yield paper[:-1]
    yield paper[1:]
    yield paper + (paper[-1],)
    yield paper + ((0, ()),)
    for k, (c, answers) in enumerate(paper):
        for value in OUT_OF_RANGE:
            yield changed(paper, k, (value, answers))
            for i in range(len(answers)):
                yield changed(paper, k, (c, changed(answers, i, value)))
        yield changed(paper, k, (c, answers + (0,)))
        yield changed(paper, k, (c, answers + (1, 2)))
        if answers:
            yield changed(paper, k, (c, answers[:-1]))


class CheckPaperTest(unittest.TestCase):

    def setUp(self):
        self.paper = make_paper(11, "text", CHOICE, 0, (3,), drawn_noise(11, CHOICE, 0, 5))

    def test_just_those_papers_are_right_whose_exponents_make_up_the_call(self):
        choice = (ONE, FALSE)
        right = 0
        for paper in papers_of_the_form(11, choice):
            call = hand_call(11, "all", choice, paper)
            if sum(c for c, _ in paper) % 11 == call:
                right += 1
                self.assertIsNone(check_paper(11, "all", choice, paper))
            else:
                with self.assertRaises(BadPaper):
                    check_paper(11, "all", choice, paper)
        self.assertEqual(right, len(list(all_noises(11, choice, 0))))

    def test_one_number_changed(self):
        for k, (c, answers) in enumerate(self.paper):
            others = [((c + more) % 11, answers) for more in range(1, 11)]
            others += [(c, changed(answers, i, (answers[i] + more) % 11))
                       for i in range(len(answers)) for more in range(1, 11)]
            for pair in others:
                self.check_against_the_rule("text", CHOICE, changed(self.paper, k, pair))

    def test_another_text(self):
        for text in ("", "Text", "text ", " text", "texts", "text 4", "tex"):
            self.check_against_the_rule(text, CHOICE, self.paper)

    def test_another_choice(self):
        for choice in ((ONE, TWO, FALSE, NONE), (ONE, TWO, NONE, NONE), ((1, ((18, (3,)),)), *CHOICE[1:]),
                       ((1, ((4, (4,)),)), *CHOICE[1:]), (ONE, (2, TWO[1][::-1]), NONE, FALSE)):
            self.check_against_the_rule("text", choice, self.paper)

    def test_some_of_these_are_bad_papers(self):
        with self.assertRaises(BadPaper):
            check_paper(11, "other", CHOICE, self.paper)
        with self.assertRaises(BadPaper):
            check_paper(11, "hello", (ONE,), ((7, (5,)),))
        with self.assertRaises(BadPaper):
            check_paper(11, "hello", (ONE,), ((8, (6,)),))
        with self.assertRaises(BadPaper):
            check_paper(1013, "other", (ONE_OF_1013,), PAPER_OF_1013)
        with self.assertRaises(BadPaper):
            check_paper(1013, "text", ((1, ((81, (9,)),)),), PAPER_OF_1013)
        self.assertIsNone(check_paper(1013, "text", (ONE_OF_1013,), PAPER_OF_1013))

    def check_against_the_rule(self, text, choice, paper):
        if sum(c for c, _ in paper) % 11 == hand_call(11, text, choice, paper):
            self.assertIsNone(check_paper(11, text, choice, paper))
        else:
            with self.assertRaises(BadPaper):
                check_paper(11, text, choice, paper)

    def test_papers_that_do_not_have_the_form(self):
        for paper in other_forms(self.paper):
            with self.assertRaises(BadForm):
                check_paper(11, "text", CHOICE, paper)
            with self.assertRaises(BadForm):
                check_paper(11, "another text", CHOICE, paper)

    def test_pairs_in_another_order(self):
        with self.assertRaises(BadForm):
            check_paper(11, "text", CHOICE, self.paper[::-1])


ONE_OF_1013 = (1, ((729, (9,)),))
PAPER_OF_1013 = make_paper(1013, "text", (ONE_OF_1013,), 0, (3,), ((0, (7,)),))


class ExplainPaperTest(unittest.TestCase):

    def test_the_noise_makes_just_this_paper(self):
        for seed in range(8):
            for index, values in ((0, (3,)), (1, values_of(11, TWO)[0]), (2, ())):
                noise = drawn_noise(11, CHOICE, index, seed)
                paper = make_paper(11, "text", CHOICE, index, values, noise)
                for k, claim in enumerate(CHOICE):
                    for known in values_of(11, claim):
                        found = explain_paper(11, "text", CHOICE, paper, k, known)
                        self.assertEqual(found[k][0], 0)
                        self.assertEqual(make_paper(11, "text", CHOICE, k, known, found), paper)
                        if k == index and known == values:
                            self.assertEqual(found, noise)

    def test_no_other_noise_makes_it(self):
        choice = (ONE, NONE)
        for index, values in ((0, (3,)), (1, ())):
            papers = [make_paper(11, "few", choice, index, values, noise)
                      for noise in all_noises(11, choice, index)]
            self.assertEqual(len(set(papers)), len(papers))
            right = [paper for paper in papers_of_the_form(11, choice)
                     if self.is_right(11, "few", choice, paper)]
            self.assertEqual(sorted(papers), right)
            for paper, noise in zip(papers, all_noises(11, choice, index)):
                self.assertEqual(explain_paper(11, "few", choice, paper, index, values), noise)

    def test_several_values_for_one_claim(self):
        choice = ((2, ((18, (4, 9)),)), FALSE)
        known = values_of(11, choice[0])
        self.assertEqual(len(known), 11)
        noise = drawn_noise(11, choice, 0, 4)
        paper = make_paper(11, "more", choice, 0, known[0], noise)
        found = [explain_paper(11, "more", choice, paper, 0, values) for values in known]
        self.assertEqual(found[0], noise)
        for values, other in zip(known, found):
            self.assertEqual(make_paper(11, "more", choice, 0, values, other), paper)

    def is_right(self, *arguments):
        try:
            check_paper(*arguments)
        except CloakError:
            return False
        return True

    def test_the_errors_of_check_paper_come_first(self):
        paper = make_paper(11, "text", CHOICE, 0, (3,), drawn_noise(11, CHOICE, 0, 5))
        for index, values in ((0, (3,)), (0, (4,)), (9, (3,)), (-1, ()), (0, (99,)), (3, ())):
            for other in other_forms(paper):
                with self.assertRaises(BadForm):
                    explain_paper(11, "text", CHOICE, other, index, values)
            with self.assertRaises(BadPaper):
                explain_paper(11, "other", CHOICE, paper, index, values)

    def test_then_those_for_the_index_and_the_values(self):
        paper = make_paper(11, "text", CHOICE, 0, (3,), drawn_noise(11, CHOICE, 0, 5))
        wrong = [(-1, (3,)), (-4, (3,)), (4, (3,)), (ENDLESS, (3,)), (0, (4,)), (0, ()), (0, (3, 0)),
                 (0, (14,)), (0, (ENDLESS,)), (1, (0, 0)), (2, (0,)), (3, ())]
        for index, values in wrong:
            with self.assertRaises(NotAllowed):
                explain_paper(11, "text", CHOICE, paper, index, values)

    def test_kinds(self):
        paper = make_paper(11, "text", CHOICE, 0, (3,), drawn_noise(11, CHOICE, 0, 5))
        found = explain_paper(11, "text", CHOICE, paper, 0, (3,))
        self.assertEqual([type(found)] + [type(part) for part in found], [tuple] * 5)
        self.assertTrue(all(type(answers) is tuple for _, answers in found))


if __name__ == "__main__":
    unittest.main()
