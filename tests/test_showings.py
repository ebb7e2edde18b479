import unittest

from cloak.choices import check_choice
from cloak.claims import holds
from cloak.errors import BadForm, BadPaper, CloakError, Missing, NotAllowed
from cloak.groups import setup_of
from cloak.showings import (
    check_context, check_showing, choice_of, explain_showing, make_showing, paper_text,
    stage_challenge, stage_numbers,
)
from helpers import changed, hand_coin, hand_paper, squares
from sessions import (
    STRANGE, Session, blindings_that_lead, drawn, drawn_session, hand_mark, hand_spend,
    unusable_people, usable_people,
)
from stages import (
    hand_choice, hand_is_right, hand_numbers, hand_showing, hand_stage, hand_text, noise_for,
)

ALL = [(age, zone) for age in range(5) for zone in range(5)]
SETUP = (11, (4, 9, 3, 18, 2))
GREAT = setup_of(1013, 2)
PERSON = (2, 1, 3)
PAIRS = [(0, 4), (1, 3), (3, 0)]
CONTEXT = ("north", 27)
SETS = ([(1, 3)], PAIRS, [(1, 0), (1, 3)], ALL, ALL[8:])
NO_CONTEXTS = [(gate, 27) for gate in ("", "abcdefg", "a" * 100, "North", "NORTH", "norTh", "a1", "1",
                                       "a b", " ", " a", "a ", "a-b", "_", "a_", "\u00e9", "\u0430")]
NO_CONTEXTS += [("north", moment) for moment in (-1, 1000000, 1000001, -1000000, *STRANGE)]
NO_CONTEXTS += [("", -1), ("North", 1000000)]
NO_SETS = ([(0, 0), (0, 0)], [(1, 0), (0, 0)], ALL[::-1], ALL + ALL, [(0, 5)], [(5, 0)], [(-1, 0)],
           [(1, 3), (1, -1)], [(1, 3), (9, 9)], [(STRANGE[0], 0)], [(0, STRANGE[1])])


def made(session, context, pairs, noise):
    return make_showing(session.setup, session.person, session.ticket, session.blinding, context,
                        pairs, noise)


def people_with(setup, pairs):
    return [person for person in usable_people(setup) if person[1:] in pairs]


def is_right(setup, key, context, pairs, showing):
    try:
        return check_showing(setup, key, context, pairs, showing) is None
    except CloakError:
        return False


SESSION = Session(SETUP, 8, PERSON, 6, (5, 9, 7, (1, 2, 3, 4)))
GREAT_SESSION = drawn_session(GREAT, 700, (600, 1, 3), 1, 0)


class ContextTest(unittest.TestCase):

    def test_contexts(self):
        for gate in ("a", "z", "az", "north", "abcdef", "zzzzzz"):
            for moment in (0, 1, 27, 999998, 999999):
                self.assertIsNone(check_context((gate, moment)))

    def test_what_is_no_context(self):
        for context in NO_CONTEXTS:
            with self.assertRaises(NotAllowed):
                check_context(context)


class StageTest(unittest.TestCase):

    def test_written_out(self):
        self.assertEqual(stage_numbers(CONTEXT, PAIRS), [27, 3, 4, 8, 15])
        self.assertEqual(stage_numbers(("a", 0), []), [0, 0])
        self.assertEqual(stage_numbers(("a", 999999), [(4, 4)]), [999999, 1, 24])
        self.assertEqual(stage_numbers(CONTEXT, ALL), [27, 25, *range(25)])
        self.assertEqual(stage_challenge(SETUP, CONTEXT, PAIRS),
                         1 + hand_coin(0, 11, "show north 27 3 4 8 15") % 10)
        self.assertEqual(stage_challenge(GREAT, ("a", 0), []), 1 + hand_coin(0, 1013, "show a 0 0") % 1012)

    def test_by_the_rule(self):
        for pairs in (*SETS, []):
            for context in (CONTEXT, ("a", 0), ("zzzzzz", 999999), ("north", 28)):
                self.assertEqual(stage_numbers(context, pairs), hand_numbers(context, pairs))
                for setup in (SETUP, GREAT, setup_of(53, 7)):
                    self.assertEqual(stage_challenge(setup, context, pairs),
                                     hand_stage(setup[0], context, pairs))

    def test_the_list_is_a_new_one_and_lists_that_were_passed_stay(self):
        pairs = list(PAIRS)
        stage_numbers(CONTEXT, pairs).append(9)
        stage_numbers(CONTEXT, pairs).clear()
        stage_challenge(SETUP, CONTEXT, pairs)
        self.assertEqual(stage_numbers(CONTEXT, pairs), [27, 3, 4, 8, 15])
        self.assertEqual(pairs, PAIRS)

    def test_not_allowed(self):
        for context in NO_CONTEXTS:
            for pairs in (PAIRS, [], *NO_SETS):
                with self.assertRaises(NotAllowed):
                    stage_numbers(context, pairs)
                with self.assertRaises(NotAllowed):
                    stage_challenge(SETUP, context, pairs)
        for pairs in NO_SETS:
            with self.assertRaises(NotAllowed):
                stage_numbers(CONTEXT, pairs)
            with self.assertRaises(NotAllowed):
                stage_challenge(SETUP, CONTEXT, pairs)

    def test_that_of_the_context_is_raised_ahead_of_that_of_the_set(self):
        for context in NO_CONTEXTS:
            with self.assertRaises(NotAllowed) as told:
                check_context(context)
            for function in (lambda: stage_numbers(context, [(9, 9)]),
                             lambda: stage_challenge(SETUP, context, [(9, 9)])):
                with self.assertRaises(NotAllowed) as raised:
                    function()
                self.assertEqual(str(raised.exception), str(told.exception))


class ChoiceTest(unittest.TestCase):

    def test_by_the_rule(self):
        for setup in (SETUP, setup_of(53, 7)):
            for n in range(5):
                ticket = drawn_session(setup, 8, PERSON, 2, n).ticket
                for pairs in SETS:
                    choice = choice_of(setup, ticket, pairs)
                    self.assertEqual(choice, hand_choice(setup, ticket[0], pairs))
                    self.assertIsNone(check_choice(setup[0], choice))

    def test_written_out(self):
        # 9 * 18 ** 1 * 2 ** 3 is 1296 = 56 * 23 + 8, 9 * 2 ** 4 is 144 = 6 * 23 + 6.
        self.assertEqual(choice_of(SETUP, (13, 0, 0, 0, 0, 0), [(0, 4), (1, 3)]),
                         ((2, ((13, (6, 3)),)), (2, ((13, (8, 3)),))))

    def test_just_the_claim_of_the_own_pair_holds_for_the_values(self):
        for person in usable_people(SETUP)[::3]:
            session = drawn_session(SETUP, 8, person, 3, person[0])
            s = session.blinding[0]
            claims = choice_of(SETUP, session.ticket, ALL)
            self.assertTrue(holds(11, claims[ALL.index(person[1:])], (s, s * person[0] % 11)))
        found = [at for at, claim in enumerate(choice_of(GREAT, GREAT_SESSION.ticket, ALL))
                 if holds(1013, claim, (GREAT_SESSION.blinding[0],
                                        GREAT_SESSION.blinding[0] * 600 % 1013))]
        self.assertEqual(found, [8])

    def test_only_the_first_number_of_the_ticket_matters(self):
        for first in squares(11):
            self.assertEqual(choice_of(SETUP, (first, 0, -1, *STRANGE, 99), PAIRS),
                             hand_choice(SETUP, first, PAIRS))

    def test_not_allowed(self):
        for pairs in ([], *NO_SETS):
            with self.assertRaises(NotAllowed):
                choice_of(SETUP, SESSION.ticket, pairs)
        for first in (0, 5, 22, 23, 24, 27, -1, -4, *STRANGE):
            for pairs in (PAIRS, []):
                with self.assertRaises(NotAllowed):
                    choice_of(SETUP, changed(SESSION.ticket, 0, first), pairs)

    def test_lists_that_were_passed_stay(self):
        pairs = list(PAIRS)
        choice_of(SETUP, SESSION.ticket, pairs)
        paper_text(CONTEXT, pairs, SESSION.ticket, SESSION.spend(3))
        self.assertEqual(pairs, PAIRS)


class PaperTextTest(unittest.TestCase):

    def test_written_out(self):
        self.assertEqual(paper_text(CONTEXT, PAIRS, (1, 2, 3, 4, 5, 6), (7, (8, 9, 10, 0))),
                         "paper north 27 3 4 8 15 1 2 3 4 5 6 7 8 9 10 0")
        self.assertEqual(paper_text(("a", 0), [(4, 4)], (1, -2, 3, 4, 5, 6), (7, (8, 9, -10, 0))),
                         "paper a 0 1 24 1 -2 3 4 5 6 7 8 9 -10 0")

    def test_by_the_rule_whatever_numbers_there_are(self):
        ticket, spend = (10 ** 999, -10 ** 999, 0, -1, 5, 6), (-7, (10 ** 999, 0, 1, -10 ** 999))
        for pairs in SETS:
            self.assertEqual(paper_text(CONTEXT, pairs, ticket, spend),
                             hand_text(CONTEXT, pairs, ticket, spend))

    def test_no_error_is_named_for_it(self):
        for context in (("gardens", 27), ("north", 1000000), ("north", -1)):
            for pairs in ([], [(5, 0), (0, 0)], PAIRS):
                self.assertEqual(paper_text(context, pairs, SESSION.ticket, SESSION.spend(3)),
                                 hand_text(context, pairs, SESSION.ticket, SESSION.spend(3)))


class MakeTest(unittest.TestCase):

    def test_by_the_rule(self):
        for setup in (SETUP, setup_of(23, 5)):
            for pairs in SETS:
                for n, person in enumerate(people_with(setup, pairs)[::len(pairs) * 3]):
                    session = drawn_session(setup, 8, person, 4, n)
                    noise = noise_for(session, pairs, n)
                    showing = made(session, CONTEXT, pairs, noise)
                    self.assertEqual(showing, hand_showing(session, CONTEXT, pairs, noise))

    def test_a_showing_that_is_made_is_right(self):
        for pairs in SETS:
            for n, person in enumerate(people_with(SETUP, pairs)[::len(pairs)]):
                session = drawn_session(SETUP, 8, person, 5, n)
                context = (CONTEXT, ("a", 0), ("zzzzzz", 999999))[n % 3]
                showing = made(session, context, pairs, noise_for(session, pairs, n))
                self.assertIsNone(check_showing(SETUP, session.key, context, pairs, showing))
            showing = made(GREAT_SESSION, CONTEXT, pairs, noise_for(GREAT_SESSION, pairs, 5))
            self.assertIsNone(check_showing(GREAT, GREAT_SESSION.key, CONTEXT, pairs, showing))

    def test_kinds_and_lists_that_were_passed_stay(self):
        pairs = list(PAIRS)
        showing = made(SESSION, CONTEXT, pairs, noise_for(SESSION, PAIRS, 1))
        self.assertEqual([type(showing)] + [type(part) for part in showing], [tuple] * 4)
        check_showing(SETUP, SESSION.key, CONTEXT, pairs, showing)
        explain_showing(SETUP, SESSION.key, SESSION.record, CONTEXT, pairs, showing)
        self.assertEqual(pairs, PAIRS)

    def arguments(self, **others):
        named = {"person": PERSON, "ticket": SESSION.ticket, "blinding": SESSION.blinding,
                 "context": CONTEXT, "pairs": PAIRS, "noise": noise_for(SESSION, PAIRS, 1)}
        return {**named, **others}

    def check_raises(self, error, **others):
        with self.assertRaises(error) as raised:
            make_showing(SETUP, **self.arguments(**others))
        self.assertIs(type(raised.exception), error)

    def test_contexts_and_sets(self):
        for context in NO_CONTEXTS:
            self.check_raises(NotAllowed, context=context)
            self.check_raises(NotAllowed, context=context, pairs=[], person=(99, 9, 9))
        for pairs in NO_SETS:
            self.check_raises(NotAllowed, pairs=pairs)
            self.check_raises(NotAllowed, pairs=pairs, person=(99, 9, 9), blinding=(0, 0, 0, (0,) * 4))

    def test_a_person_whose_pair_is_not_in_the_set(self):
        for pairs in ([], [(0, 0)], [pair for pair in ALL if pair != (1, 3)]):
            self.check_raises(Missing, pairs=pairs)
        for person in ((2, 0, 3), (2, 1, 4), (2, 1, 5), (2, -1, 3), (2, *STRANGE), (99, 4, 4)):
            self.check_raises(Missing, person=person)

    def test_missing_comes_ahead_of_the_other_errors(self):
        for other in ({"person": (99, 4, 4)}, {"blinding": (0, 1, 1, (1, 1, 1, 1))}, {"noise": ()},
                      {"ticket": (0,) * 6}, {"ticket": SESSION.ticket, "noise": ((1, (1, 1)),) * 3}):
            self.check_raises(Missing, pairs=[], **other)
            self.check_raises(Missing, **{"person": (2, 4, 4), **other})

    def test_the_errors_of_spend_of(self):
        for number in (-1, 11, *STRANGE):
            self.check_raises(NotAllowed, person=(number, 1, 3))
            for at in range(3):
                self.check_raises(NotAllowed, blinding=changed(SESSION.blinding, at, number))
            for at in range(4):
                covers = changed(SESSION.blinding[3], at, number)
                self.check_raises(NotAllowed, blinding=changed(SESSION.blinding, 3, covers))
        for at in (0, 1):
            self.check_raises(NotAllowed, blinding=changed(SESSION.blinding, at, 0))

    def test_the_errors_of_make_paper(self):
        noise = noise_for(SESSION, PAIRS, 1)
        others = [(), noise[:2], noise[1:], noise + noise[:1]]
        for at, (c, answers) in enumerate(noise):
            for number in (-1, 11, *STRANGE):
                others.append(changed(noise, at, (number, answers)))
                others.append(changed(noise, at, (c, (number, answers[1]))))
                others.append(changed(noise, at, (c, (answers[0], number))))
            others += [changed(noise, at, (c, answers[:1])), changed(noise, at, (c, ())),
                       changed(noise, at, (c, (*answers, 0)))]
        others += [changed(noise, 1, (c, noise[1][1])) for c in range(1, 11)]
        self.assertEqual(PAIRS.index((1, 3)), 1)
        for other in others:
            self.check_raises(NotAllowed, noise=other)

    def test_a_ticket_that_is_not_one_of_this_person_and_blinding(self):
        for s in range(1, 11):
            if s != 5:
                self.check_raises(NotAllowed, blinding=changed(SESSION.blinding, 0, s))
        for first in (0, 5, 22, 23, -1, *STRANGE, *squares(11)):
            if first != SESSION.ticket[0]:
                self.check_raises(NotAllowed, ticket=changed(SESSION.ticket, 0, first))
        for person in [(n, 1, 3) for n in range(11) if n != 2] + people_with(SETUP, [(0, 4), (3, 0)]):
            if hand_mark(SETUP, person) != hand_mark(SETUP, PERSON):
                self.check_raises(NotAllowed, person=person)

    def test_of_the_blinding_only_what_make_paper_sees_is_compared(self):
        # The document names no error for a B that the blinding does not make.
        for at in range(4):
            covers = changed(SESSION.blinding[3], at, 9)
            blinding = changed(SESSION.blinding, 3, covers)
            noise = noise_for(SESSION, PAIRS, 1)
            showing = make_showing(SETUP, **self.arguments(blinding=blinding))
            spend = hand_spend(SETUP, PERSON, blinding, hand_stage(11, CONTEXT, PAIRS))
            self.assertEqual(showing[:2], (SESSION.ticket, spend))
            self.assertEqual(showing[2], hand_paper(
                11, hand_text(CONTEXT, PAIRS, SESSION.ticket, spend),
                hand_choice(SETUP, SESSION.ticket[0], PAIRS), 1, (5, 10), noise))
            with self.assertRaises(BadPaper):
                check_showing(SETUP, SESSION.key, CONTEXT, PAIRS, showing)


def other_forms(paper, q):
    """Papers that do not have the form."""
    yield from ((), paper[:-1], paper[1:], paper + paper[:1], paper * 9)
    for at, (c, answers) in enumerate(paper):
        for number in (-1, q, c + q, c - q, *STRANGE):
            yield changed(paper, at, (number, answers))
        for place in range(2):
            for number in (-1, q, answers[place] + q, answers[place] - q, *STRANGE):
                yield changed(paper, at, (c, changed(answers, place, number)))
        yield changed(paper, at, (c, answers[:1]))
        yield changed(paper, at, (c, ()))
        yield changed(paper, at, (c, (*answers, 0)))


class CheckTest(unittest.TestCase):

    def setUp(self):
        self.noise = noise_for(GREAT_SESSION, PAIRS, 3)
        self.showing = made(GREAT_SESSION, CONTEXT, PAIRS, self.noise)

    def check_raises(self, error, key=GREAT_SESSION.key, context=CONTEXT, pairs=PAIRS, showing=None):
        with self.assertRaises(error) as raised:
            check_showing(GREAT, key, context, pairs, showing or self.showing)
        self.assertIs(type(raised.exception), error)

    def test_each_number_of_the_ticket_changed(self):
        ticket, spend, paper = self.showing
        for at in range(6):
            for number in (ticket[at] * 4 % 2027, 1, 0, ticket[at] + 2027, ticket[at] + 1,
                           ticket[at] + 1013, -1, *STRANGE):
                if number != ticket[at]:
                    self.check_raises(BadPaper, showing=(changed(ticket, at, number), spend, paper))

    def test_each_number_of_the_spend_changed(self):
        ticket, (d, answers), paper = self.showing
        for more in (1, -1, 500, 1013, -1013, *STRANGE):
            self.check_raises(BadPaper, showing=(ticket, (d + more, answers), paper))
            for at in range(4):
                spend = (d, changed(answers, at, answers[at] + more))
                self.check_raises(BadPaper, showing=(ticket, spend, paper))

    def test_each_number_of_the_paper_changed(self):
        ticket, spend, paper = self.showing
        for at, (c, answers) in enumerate(paper):
            for more in (1, 2, 500, 1012):
                others = [((c + more) % 1013, answers)]
                others += [(c, changed(answers, place, (answers[place] + more) % 1013))
                           for place in range(2)]
                for pair in others:
                    self.check_raises(BadPaper, showing=(ticket, spend, changed(paper, at, pair)))

    def test_an_accepted_spend_for_another_challenge(self):
        ticket, spend, _ = self.showing
        for more in range(1, 30):
            other = GREAT_SESSION.spend((spend[0] + more) % 1013)
            paper = hand_paper_of(GREAT_SESSION, other, self.noise)
            self.check_raises(BadPaper, showing=(ticket, other, paper))

    def test_a_spend_of_another_blinding_or_person(self):
        ticket, (d, _), _ = self.showing
        s, u, v, covers = GREAT_SESSION.blinding
        for at in range(4):
            blinding = (s, u, v, changed(covers, at, (covers[at] + 1) % 1013))
            spend = hand_spend(GREAT, GREAT_SESSION.person, blinding, d)
            paper = hand_paper_of(GREAT_SESSION, spend, self.noise)
            self.check_raises(BadPaper, showing=(ticket, spend, paper))

    def test_another_key(self):
        for key in (4, 16, 64, GREAT_SESSION.key * 4 % 2027):
            self.check_raises(BadPaper, key=key)

    def test_another_context(self):
        for context in (("north", 28), ("north", 26), ("north", 0), ("nort", 27), ("south", 27),
                        ("northh", 27), ("a", 27)):
            self.check_raises(BadPaper, context=context)

    def test_another_set(self):
        for pairs in (ALL, PAIRS[:2], PAIRS[1:], [(0, 4), (1, 3), (3, 1)], [(1, 3)],
                      [(0, 3), (1, 3), (3, 0)]):
            self.check_raises(BadPaper, pairs=pairs)

    def test_for_a_small_order_against_the_rule(self):
        right = 0
        showing = made(SESSION, CONTEXT, PAIRS, noise_for(SESSION, PAIRS, 1))
        ticket, spend, paper = showing
        others = [(changed(ticket, at, number), spend, paper) for at in range(5)
                  for number in squares(11)]
        others += [(changed(ticket, 5, number), spend, paper) for number in range(11)]
        others += [(ticket, SESSION.spend(number), paper) for number in range(11)]
        others += [(ticket, (spend[0], changed(spend[1], at, number)), paper)
                   for at in range(4) for number in range(11)]
        for at, (c, answers) in enumerate(paper):
            for number in range(11):
                others.append((ticket, spend, changed(paper, at, (number, answers))))
                others.append((ticket, spend, changed(paper, at, (c, (number, answers[1])))))
                others.append((ticket, spend, changed(paper, at, (c, (answers[0], number)))))
        for other in others:
            expected = hand_is_right(SETUP, SESSION.key, CONTEXT, PAIRS, other)
            self.assertIs(is_right(SETUP, SESSION.key, CONTEXT, PAIRS, other), expected)
            right += other != showing and expected
        for context in [("north", moment) for moment in range(100)]:
            expected = hand_is_right(SETUP, SESSION.key, context, PAIRS, showing)
            self.assertIs(is_right(SETUP, SESSION.key, context, PAIRS, showing), expected)
            right += context != CONTEXT and expected
        for key in squares(11)[1:]:
            self.assertIs(is_right(SETUP, key, CONTEXT, PAIRS, showing), key == SESSION.key)
        self.assertGreater(right, 0)

    def test_papers_of_other_lengths_and_forms(self):
        ticket, spend, paper = self.showing
        for other in other_forms(paper, 1013):
            self.check_raises(BadForm, showing=(ticket, spend, other))

    def test_not_allowed_comes_first(self):
        wrong = ((0,) * 6, (-1, (-1,) * 4), ())
        for context in NO_CONTEXTS:
            for pairs in (PAIRS, [], [(9, 9)]):
                for showing in (self.showing, wrong):
                    self.check_raises(NotAllowed, context=context, pairs=pairs, showing=showing)
        for pairs in ([], *NO_SETS):
            for showing in (self.showing, wrong):
                self.check_raises(NotAllowed, pairs=pairs, showing=showing)
        everything = made(GREAT_SESSION, CONTEXT, ALL, noise_for(GREAT_SESSION, ALL, 3))
        self.check_raises(NotAllowed, pairs=[], showing=(*everything[:2], ()))

    def test_bad_papers_come_ahead_of_the_form_of_the_paper(self):
        ticket, spend, paper = self.showing
        for other in (paper, (), paper[:-1], ((-1, (-1, -1)),) * 3, ((0, ()),) * 3):
            self.check_raises(BadPaper, showing=(changed(ticket, 5, (ticket[5] + 1) % 1013), spend, other))
            self.check_raises(BadPaper, showing=(changed(ticket, 0, 0), spend, other))
            self.check_raises(BadPaper, showing=(ticket, (spend[0] + 1, spend[1]), other))
            self.check_raises(BadPaper, showing=(ticket, (spend[0], spend[1][::-1]), other))
            self.check_raises(BadPaper, key=4, showing=(ticket, spend, other))
            self.check_raises(BadPaper, context=("north", 28), showing=(ticket, spend, other))

    def test_a_paper_that_is_not_right_comes_last(self):
        ticket, spend, paper = self.showing
        self.check_raises(BadPaper, showing=(ticket, spend, paper[::-1]))
        self.check_raises(BadPaper, showing=(ticket, spend, ((0, (0, 0)),) * 3))
        self.check_raises(BadForm, showing=(ticket, spend, ((1013, (0, 0)),) * 3))

    def test_numbers_out_of_range_everywhere(self):
        for number in STRANGE:
            self.check_raises(BadPaper, showing=(
                (number,) * 6, (number, (number,) * 4), ((number, (number, number)),) * 3))


def hand_paper_of(session, spend, noise):
    """A right paper of the person of a session for CONTEXT and PAIRS, beside any spend."""
    s, q = session.blinding[0], session.setup[0]
    return hand_paper(q, hand_text(CONTEXT, PAIRS, session.ticket, spend),
                      hand_choice(session.setup, session.ticket[0], PAIRS),
                      PAIRS.index(session.person[1:]), (s, s * session.person[0] % q), noise)


class ExplainTest(unittest.TestCase):

    def test_from_the_own_session_what_was_drawn(self):
        for pairs in SETS:
            for n, person in enumerate(people_with(SETUP, pairs)[::len(pairs) * 2]):
                session = drawn_session(SETUP, 1 + n % 10, person, 6, n)
                noise = noise_for(session, pairs, n)
                showing = made(session, CONTEXT, pairs, noise)
                self.assertEqual(explain_showing(SETUP, session.key, session.record, CONTEXT, pairs,
                                                 showing), (session.blinding, noise))
            noise = noise_for(GREAT_SESSION, pairs, 7)
            showing = made(GREAT_SESSION, CONTEXT, pairs, noise)
            self.assertEqual(explain_showing(GREAT, GREAT_SESSION.key, GREAT_SESSION.record, CONTEXT,
                                             pairs, showing), (GREAT_SESSION.blinding, noise))

    def test_for_each_session_of_the_issuer_the_very_same_showing_is_made(self):
        for pairs in SETS:
            showing = made(SESSION, CONTEXT, pairs, noise_for(SESSION, pairs, 8))
            for n, person in enumerate(usable_people(SETUP)[::3]):
                other = drawn_session(SETUP, 8, person, 9, n)
                found = explain_showing(SETUP, SESSION.key, other.record, CONTEXT, pairs, showing)
                if person[1:] not in pairs:
                    self.assertIsNone(found)
                    continue
                blinding, noise = found
                again = Session(SETUP, 8, person, drawn(9, n, "w", 0, 11), blinding)
                self.assertEqual((again.offer, again.c, again.r), other.record[1:])
                self.assertEqual(again.ticket, SESSION.ticket)
                self.assertEqual(noise[pairs.index(person[1:])][0], 0)
                self.assertEqual(made(again, CONTEXT, pairs, noise), showing)

    def test_no_other_blinding_and_no_other_noise(self):
        for pairs in ([(1, 3)], [(0, 4), (1, 3)]):
            showing = made(SESSION, CONTEXT, pairs, noise_for(SESSION, pairs, 10))
            for n, person in enumerate(people_with(SETUP, pairs)[::4]):
                other = drawn_session(SETUP, 8, person, 11, n)
                blindings = blindings_that_lead(SETUP, SESSION.key, other.record, *showing[:2])
                self.assertEqual(len(blindings), 1)
                own = pairs.index(person[1:])
                # The pairs of the other claims are those of the noise.
                noises = [changed(showing[2], own, (0, (a, b))) for a in range(11) for b in range(11)]
                leading = [noise for noise in noises
                           if make_showing(SETUP, person, SESSION.ticket, blindings[0], CONTEXT,
                                           pairs, noise) == showing]
                self.assertEqual(len(leading), 1)
                self.assertEqual(explain_showing(SETUP, SESSION.key, other.record, CONTEXT, pairs,
                                                 showing), (blindings[0], leading[0]))

    def test_a_great_order(self):
        showing = made(GREAT_SESSION, CONTEXT, PAIRS, noise_for(GREAT_SESSION, PAIRS, 12))
        for n in range(20):
            other = drawn_session(GREAT, 700, (n * 50, *PAIRS[n % 3]), 13, n)
            blinding, noise = explain_showing(GREAT, GREAT_SESSION.key, other.record, CONTEXT, PAIRS,
                                              showing)
            self.assertEqual(make_showing(GREAT, other.person, GREAT_SESSION.ticket, blinding, CONTEXT,
                                          PAIRS, noise), showing)

    def test_none_for_a_person_whose_pair_is_not_in_the_set(self):
        showing = made(SESSION, CONTEXT, PAIRS, noise_for(SESSION, PAIRS, 14))
        for n, person in enumerate(usable_people(SETUP)):
            other = drawn_session(SETUP, 8, person, 15, n)
            found = explain_showing(SETUP, SESSION.key, other.record, CONTEXT, PAIRS, showing)
            self.assertIs(found is None, person[1:] not in PAIRS)

    def test_none_for_a_session_of_an_issuer_with_another_key(self):
        showing = made(SESSION, CONTEXT, PAIRS, noise_for(SESSION, PAIRS, 16))
        for secret in range(1, 11):
            for n, person in enumerate(people_with(SETUP, PAIRS)[::3]):
                other = drawn_session(SETUP, secret, person, 17, n)
                found = explain_showing(SETUP, SESSION.key, other.record, CONTEXT, PAIRS, showing)
                self.assertIs(found is None, secret != 8)

    def test_none_for_records_that_lead_to_nothing(self):
        showing = made(SESSION, CONTEXT, ALL, noise_for(SESSION, ALL, 18))
        person, offer, c, r = SESSION.record
        records = [(other, offer, c, r) for other in unusable_people(SETUP)]
        records += [((number, 1, 3), offer, c, r) for number in (-1, 11, 13, *STRANGE)]
        records += [((2, age, 3), offer, c, r) for age in (-1, 5, 12, *STRANGE)]
        records += [(person, changed(offer, at, number), c, r) for at in range(3)
                    for number in (0, 5, -1, 23, *STRANGE)]
        records += [(person, offer, number, r) for number in (0, c + 1, c + 11, c - 11, *STRANGE)]
        records += [(person, offer, c, number) for number in (r - 1, r + 11, r - 11, *STRANGE)]
        for record in records:
            self.assertIsNone(
                explain_showing(SETUP, SESSION.key, record, CONTEXT, ALL, showing))

    def check_raises(self, error, *arguments):
        with self.assertRaises(error) as raised:
            explain_showing(GREAT, *arguments)
        self.assertIs(type(raised.exception), error)

    def test_the_errors_of_check_showing_come_first(self):
        showing = made(GREAT_SESSION, CONTEXT, PAIRS, noise_for(GREAT_SESSION, PAIRS, 19))
        ticket, spend, paper = showing
        key = GREAT_SESSION.key
        stranger = drawn_session(GREAT, 600, (5, 4, 4), 20, 0).record
        nobody = ((-1, 9, 9), (0, 0, 0), -1, -1)
        for record in (GREAT_SESSION.record, stranger, nobody):
            for context in NO_CONTEXTS:
                self.check_raises(NotAllowed, key, record, context, PAIRS, showing)
            for pairs in ([], *NO_SETS):
                self.check_raises(NotAllowed, key, record, CONTEXT, pairs, showing)
            for other in other_forms(paper, 1013):
                self.check_raises(BadForm, key, record, CONTEXT, PAIRS, (ticket, spend, other))
            for bad in ((changed(ticket, 5, (ticket[5] + 1) % 1013), spend, paper),
                        (ticket, (spend[0], spend[1][::-1]), ()), (ticket, spend, paper[::-1]),
                        (ticket, GREAT_SESSION.spend((spend[0] + 1) % 1013), paper)):
                self.check_raises(BadPaper, key, record, CONTEXT, PAIRS, bad)
            self.check_raises(BadPaper, 4, record, CONTEXT, PAIRS, showing)
            self.check_raises(BadPaper, key, record, ("north", 28), PAIRS, showing)
        for record in (stranger, nobody):
            self.assertIsNone(explain_showing(GREAT, key, record, CONTEXT, PAIRS, showing))

    def test_kinds(self):
        showing = made(SESSION, CONTEXT, PAIRS, noise_for(SESSION, PAIRS, 1))
        found = explain_showing(SETUP, SESSION.key, SESSION.record, CONTEXT, PAIRS, showing)
        self.assertEqual([type(found)] + [type(part) for part in found], [tuple] * 3)


if __name__ == "__main__":
    unittest.main()
