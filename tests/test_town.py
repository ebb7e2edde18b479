import unittest
from random import Random

from cloak.errors import NotAllowed
from cloak.gates import load_gate
from cloak.groups import setup_of
from cloak.town import TOWN_ORDER, TOWN_SEED, Town, run_script
from handtown import ALL, QUESTIONS, SETUP, HandTown
from helpers import ErrorCase, hand_coin, multiplied
from sessions import Session, hand_is_ticket, unusable_people
from stages import hand_showing, hand_stage

NAMES = ("ann", "bob", "cyd", "dora", "eve", "fay", "gus", "hal", "ida", "jo", "kim")


def rows(text):
    """The lines of a script and their wanted answers, from lines with ` -> `."""
    return [line.partition(" -> ")[::2] for line in text.strip("\n").split("\n")]


def hand_blinding(n):
    covers = tuple(hand_coin(n, 0, word) % 113 for word in ("x0", "x1", "x2", "x3"))
    return (1 + hand_coin(n, 0, "s") % 112, 1 + hand_coin(n, 0, "u") % 112, hand_coin(n, 0, "v") % 113, covers)


def hand_session(n, epoch, person):
    """The session of a line in which a ticket is issued."""
    secret = 1 + hand_coin(3, epoch, "key") % 112
    return Session(SETUP, secret, person, hand_coin(n, 0, "w") % 113, hand_blinding(n))


def hand_noise(n, pairs, own):
    noise = []
    for i in range(len(pairs)):
        c = 0 if pairs[i] == own else hand_coin(n, 0, "c" + str(i)) % 113
        noise.append((c, (hand_coin(n, 0, "a" + str(i) + "b") % 113, hand_coin(n, 0, "a" + str(i) + "d") % 113)))
    return tuple(noise)


class TownCase(ErrorCase):

    def check(self, text):
        """Run the lines of a text, and compare the answers that it tells."""
        wanted = rows(text)
        answers = run_script("\n".join(line for line, _ in wanted))
        self.assertEqual(list(zip([line for line, _ in wanted], answers)), wanted)


class ScriptTest(TownCase):

    def test_constants_and_the_setup(self):
        self.assertEqual([TOWN_ORDER, TOWN_SEED], [113, 3])
        self.assertEqual([setup_of(113, 3), Town().setup], [SETUP, SETUP])

    def test_an_answer_for_each_line(self):
        self.assertEqual(run_script(""), [""])
        self.assertEqual(run_script("\n\n"), ["", "", ""])
        self.assertEqual(run_script("gate a\n\ngate a\n"), ["ok", "", "twice", ""])
        self.assertIs(type(run_script("")), list)

    def test_numbers_of_lines(self):
        self.assertEqual(run_script("\n" * 39), [""] * 40)
        self.assertEqual(run_script("epoch\n" * 39 + "left a"), ["ok", "ok"] + ["refused"] * 37 + ["none"])
        for script in ("\n" * 40, "\n" * 100, "epoch\n" * 40, "\n" * 3000):
            self.check_raises(NotAllowed, run_script, script)

    def test_numbers_of_characters(self):
        self.assertEqual(run_script("x" * 3000), ["bad"])
        self.assertEqual(run_script("\n" * 20 + "x" * 2980), [""] * 20 + ["bad"])
        for script in ("x" * 3001, " " * 3001, "\n" * 20 + "x" * 2981, "x" * 10000):
            self.check_raises(NotAllowed, run_script, script)

    def test_two_scripts_do_not_touch_each_other(self):
        script = "person ann 5 2 3\ngate a\nissue ann\nshow ann a any\nagain ann a none\nagain ann a any\nepoch"
        for _ in range(3):
            self.assertEqual(run_script(script), ["ok", "ok", "ok", "ok", "not", "used", "ok"])
        self.assertEqual(run_script("left ann\nexposed a\nepoch\nepoch"), ["none", "none", "ok", "ok"])

    def test_bad_ahead_of_none_ahead_of_all_others(self):
        self.check("""
issue ann x -> bad
show ann north -> bad
show ann north  -> none
show ann north age < 12 -> none
gate north -> ok
show ann north age < 12 -> none
person ann 5 2 3 -> ok
show ann north age < 12 -> form
show ann south age < 12 -> none
show bob north age < 12 -> none
again ann south any -> none
merge north south -> none
merge south north -> none
merge south south -> none
exposed south -> none
crowd south -> none
power bob 3 -> none
power bob 1000 -> bad
save bob -> none
back bob -> none
left bob -> none
issue bob -> none
issue Bob -> bad
exposed ann -> none
left north -> bad
issue gate -> none
epochs -> bad
  -> bad
 -> """)


class PeopleTest(TownCase):

    def test_persons(self):
        self.check("""
person ann 5 2 3 -> ok
person ann 6 2 3 -> twice
person bob 5 1 1 -> twice
person ann 5 2 3 -> twice
person ann 999 9 9 -> twice
person bob 5 9 9 -> twice
person bob 113 1 1 -> refused
person bob 999 1 1 -> refused
person bob 6 5 1 -> refused
person bob 6 1 5 -> refused
person bob 6 1 999 -> refused
left bob -> none
person bob 112 4 4 -> ok
person cyd 0 0 0 -> ok
left bob -> 0""")

    def test_persons_whose_mark_is_1(self):
        people = unusable_people(SETUP)
        self.assertGreater(len(people), 3)
        for number, age, zone in people[:5]:
            other = (zone + 1) % 5
            self.assertNotIn((number, age, other), people)
            self.check(f"""
person ann {number} {age} {zone} -> refused
left ann -> none
person ann {number} {age} {other} -> ok
person bob {number} {age} {zone} -> twice""")

    def test_ten_persons_and_an_eleventh(self):
        lines = [f"person {name} {n} 1 {n % 5} -> ok" for n, name in enumerate(NAMES[:10])]
        self.check("\n".join(lines) + """
person kim 10 1 1 -> refused
person kim 9 1 1 -> twice
person jo 50 1 1 -> twice
person kim 200 1 1 -> refused
left kim -> none
left jo -> 0""")

    def test_gates(self):
        self.check("""
gate north -> ok
gate north -> twice
gate south -> ok
person gate 1 1 1 -> ok
person a 2 1 1 -> ok
gate gate -> ok
gate a -> ok
gate a -> twice
crowd a -> -
exposed a -> -""")


class IssueTest(TownCase):

    def test_tickets_of_a_person(self):
        self.check("""
person ann 5 2 3 -> ok
person bob 6 2 3 -> ok
left ann -> 0
issue ann -> ok
issue ann -> ok
issue bob -> ok
left ann -> 2
left bob -> 1
epoch -> ok
left ann -> 0
issue ann -> ok
left ann -> 1
epoch -> ok
left ann -> 0
epoch -> refused
epoch -> refused
issue ann -> ok
left ann -> 1""")

    def test_the_sixth_and_the_seventh_ticket_of_an_epoch(self):
        self.check("""
person ann 5 2 3 -> ok
person bob 6 2 3 -> ok
""" + "issue ann -> ok\n" * 6 + """issue ann -> full
issue ann -> full
left ann -> 6
issue bob -> ok
epoch -> ok
left ann -> 0
issue ann -> ok
left ann -> 1""")

    def test_a_full_purse(self):
        self.check("person ann 5 2 3 -> ok\n" + "issue ann -> ok\n" * 6 + "issue ann -> full\nepoch -> ok\n"
                   + "issue ann -> ok\n" * 6 + "issue ann -> full\nepoch -> ok\n" + """issue ann -> full
left ann -> 0
issue ann -> full
gate a -> ok
crowd a -> -""")

    def test_what_a_full_purse_did_not_get_does_not_count(self):
        text = "person ann 5 2 3 -> ok\nsave ann -> ok\n"
        text += "issue ann -> ok\n" * 6 + "epoch -> ok\n" + "issue ann -> ok\n" * 6 + "epoch -> ok\n"
        text += "issue ann -> full\n" * 7 + "back ann -> ok\n" + "issue ann -> ok\n" * 6
        self.check(text + "issue ann -> full\nleft ann -> 6")

    def test_tickets_that_a_loaded_purse_lacks_were_issued_all_the_same(self):
        self.check("person ann 5 2 3 -> ok\nsave ann -> ok\n" + "issue ann -> ok\n" * 5 + """back ann -> ok
left ann -> 0
issue ann -> ok
issue ann -> full
left ann -> 1""")


class ShowTest(TownCase):

    def test_answers(self):
        self.check("""
person ann 5 2 3 -> ok
gate north -> ok
show ann north any -> missing
show ann north any or -> form
show ann north none -> not
issue ann -> ok
show ann north  -> form
show ann north    -> form
show ann north age < 12 -> form
show ann north Age < 1 -> form
show ann north age < 2 -> not
show ann north age == 2 and zone == 4 -> not
left ann -> 1
show ann north   age+zone == 5   -> ok
left ann -> 0
show ann north any -> missing
show ann north age < 2 -> not
show ann north age< -> form""")

    def test_a_question_of_300_characters(self):
        for spaces, answer in ((297, "ok"), (298, "form")):
            self.assertEqual(run_script("person ann 5 2 3\ngate a\nissue ann\nshow ann a any" + " " * spaces)[3],
                             answer)

    def test_again(self):
        self.check("""
person ann 5 2 3 -> ok
gate north -> ok
gate south -> ok
again ann north x -> form
again ann north none -> not
again ann north any -> missing
issue ann -> ok
again ann north any -> missing
show ann north any -> ok
again ann north x -> form
again ann north age < 2 -> not
again ann north any -> used
again ann south any -> ok
again ann south any -> used
left ann -> 0
crowd north -> ann
crowd south -> ann""")

    def test_the_ticket_that_was_taken_last(self):
        self.check("""
person ann 5 2 3 -> ok
gate north -> ok
gate south -> ok
gate east -> ok
issue ann -> ok
issue ann -> ok
show ann north any -> ok
show ann north age == 2 -> ok
again ann south any -> ok
show ann east any -> missing
again ann east zone == 3 -> ok
merge south east -> ok
crowd south -> ann
crowd north -> ann ann""")

    def test_again_in_a_later_epoch(self):
        self.check("""
person ann 5 2 3 -> ok
gate north -> ok
gate south -> ok
issue ann -> ok
show ann north any -> ok
epoch -> ok
again ann north any -> used
again ann south any -> ok
show ann south any -> missing
again ann south any -> used
crowd south -> -
crowd north -> -
exposed south -> ann
issue ann -> ok
show ann south any -> ok
crowd south -> ann
epoch -> ok
again ann north any -> ok
again ann north any -> used
crowd north -> -""")

    def test_a_ticket_is_taken_even_if_it_is_used(self):
        # A ticket that was shown already is given out by no purse, so a later one is taken.
        self.check("""
person ann 5 2 3 -> ok
gate north -> ok
issue ann -> ok
save ann -> ok
show ann north any -> ok
back ann -> ok
left ann -> 0
show ann north any -> missing
issue ann -> ok
show ann north any -> ok
exposed north -> -""")


class PurseTest(TownCase):

    def test_save_and_back(self):
        self.check("""
person ann 5 2 3 -> ok
person bob 6 2 3 -> ok
back ann -> missing
save ann -> ok
back bob -> missing
issue ann -> ok
issue ann -> ok
save ann -> ok
issue ann -> ok
left ann -> 3
back ann -> ok
left ann -> 2
back ann -> ok
left ann -> 2
gate a -> ok
show ann a any -> ok
back ann -> ok
left ann -> 1
again ann a any -> used
save ann -> ok
epoch -> ok
issue ann -> ok
left ann -> 1
back ann -> ok
left ann -> 0
again ann a any -> used""")

    def test_power(self):
        self.check("""
person ann 5 2 3 -> ok
gate a -> ok
gate b -> ok
issue ann -> ok
issue ann -> ok
issue ann -> ok
power ann 0 -> ok
show ann a any -> down
show ann a none -> not
show ann a x -> form
again ann a any -> missing
left ann -> 3
power ann 1 -> ok
show ann a any -> ok
show ann a any -> down
left ann -> 2
again ann b any -> ok
crowd a -> ann
power ann 999 -> ok
show ann a any -> ok
show ann a any -> ok
show ann a any -> missing
power ann 0 -> ok
show ann a any -> missing
save ann -> ok
back ann -> ok
issue ann -> ok
show ann a any -> down""")

    def test_power_of_each_person_alone(self):
        self.check("""
person ann 5 2 3 -> ok
person bob 6 2 3 -> ok
gate a -> ok
issue ann -> ok
issue bob -> ok
power ann 0 -> ok
show bob a any -> ok
show ann a any -> down""")


class LogTest(TownCase):

    def test_merge(self):
        self.check("""
person ann 5 2 3 -> ok
person bob 6 1 1 -> ok
gate a -> ok
gate b -> ok
issue ann -> ok
issue bob -> ok
show ann a any -> ok
again ann b any -> ok
show bob b age == 1 -> ok
exposed a -> -
exposed b -> -
merge a b -> ok
exposed a -> ann
exposed b -> -
crowd a -> ann bob
crowd b -> ann bob
merge a a -> ok
merge b a -> ok
merge b a -> ok
exposed b -> ann
crowd b -> ann bob
again bob a any -> used
exposed b -> ann
exposed a -> ann bob
again bob b any -> used
exposed b -> ann bob""")

    def test_exposed_names_in_order_and_each_once(self):
        self.check("""
person zoe 5 2 3 -> ok
person ann 6 2 3 -> ok
person bob 7 2 3 -> ok
gate a -> ok
issue zoe -> ok
issue zoe -> ok
issue ann -> ok
issue bob -> ok
show bob a any -> ok
show zoe a any -> ok
again zoe a any -> used
show zoe a any -> ok
again zoe a any -> used
show ann a any -> ok
exposed a -> zoe
again ann a any -> used
exposed a -> ann zoe""")

    def test_equal_challenges_expose_nobody(self):
        wanted = hand_stage(113, ("a", 0), ALL)
        name = [first + second for first in "bcdefghijklmnopqrst" for second in "abcdefghijklmnopqrst"
                if hand_stage(113, (first + second, 0), ALL) == wanted][0]
        self.check(f"""
person ann 5 2 3 -> ok
gate a -> ok
gate {name} -> ok
issue ann -> ok
show ann a any -> ok
again ann {name} any -> ok
merge a {name} -> ok
exposed a -> -
again ann {name} any -> used
exposed {name} -> ann
merge a {name} -> ok
exposed a -> ann""")

    def test_a_number_that_no_person_has(self):
        town = Town()
        for n, line in enumerate(("person ann 5 2 3", "person bob 112 2 3", "gate a", "gate b")):
            self.assertEqual(town.answer(n, line), "ok")
        texts = []
        for n, person in enumerate(((77, 2, 3), (5, 0, 0), (8, 1, 1))):
            session = hand_session(n, 0, person)
            for moment, d in ((n, 3), (n + 50, 4)):
                _, answers = session.spend(d)
                texts.append((moment, " ".join(str(k) for k in ("a", 0, moment, 1, 0, *session.ticket, d, *answers,
                                                                 1, 1, 1))))
        town.gates["a"] = load_gate("a", ";".join(text for _, text in sorted(texts)))
        self.assertEqual(town.answer(5, "exposed a"), "77 8 ann")
        self.assertEqual(town.answer(6, "exposed b"), "-")
        self.assertEqual(town.answer(7, "merge b a"), "ok")
        self.assertEqual(town.answer(8, "person zoe 8 1 1"), "ok")
        self.assertEqual(town.answer(9, "exposed b"), "77 ann zoe")

    def test_crowd(self):
        self.check("""
person cyd 7 0 0 -> ok
person bob 6 1 1 -> ok
person ann 5 2 3 -> ok
gate a -> ok
crowd a -> -
issue ann -> ok
issue bob -> ok
issue cyd -> ok
show cyd a any -> ok
crowd a -> cyd,bob,ann
show bob a age > 0 -> ok
crowd a -> cyd,bob,ann bob,ann
show ann a age == 2 -> ok
crowd a -> cyd bob ann
issue ann -> ok
crowd a -> cyd,bob,ann bob,ann ann
epoch -> ok
crowd a -> -
issue bob -> ok
crowd a -> -
show bob a any -> ok
crowd a -> bob
issue ann -> ok
crowd a -> bob,ann""")

    def test_eight_uses_and_a_ninth(self):
        text = "person ann 5 2 3 -> ok\nperson bob 6 1 1 -> ok\ngate a -> ok\n"
        text += "issue ann -> ok\n" * 5 + "issue bob -> ok\n" * 5
        text += "show ann a any -> ok\n" * 4 + "show bob a any -> ok\n" * 4
        text += "again bob a any -> used\ncrowd a -> " + " ".join(["ann,bob"] * 8) + "\n"
        text += """show ann a any -> ok
crowd a -> refused
exposed a -> bob
gate b -> ok
merge b a -> ok
crowd b -> refused
epoch -> ok
crowd a -> -
issue bob -> ok
show bob a any -> ok
crowd a -> bob"""
        self.check(text)


class DrawsTest(TownCase):

    def test_tickets_and_showings_by_the_random_numbers_of_the_document(self):
        town, sessions = Town(), {}
        people = {"ann": (5, 2, 3), "bob": (112, 0, 4), "cyd": (0, 4, 0)}
        lines = [f"person {name} {' '.join(map(str, numbers))}" for name, numbers in people.items()]
        lines += ["gate north", "gate a"]
        questions = [question for question, pairs in QUESTIONS.items() if pairs]
        for epoch in range(3):
            for name in people:
                lines += [f"issue {name}"] + [f"show {name} {gate} {question}"
                                              for gate, question in (("north", "any"), ("a", questions[epoch + 1]))]
            lines.append("epoch")
        lines = lines[:40]
        epoch, expected, moments = 0, [], {"north": 0, "a": 0}
        for n, line in enumerate(lines):
            answer = town.answer(n, line)
            word, *rest = line.split(" ", 3)
            if word == "epoch":
                epoch += answer == "ok"
            elif word == "issue":
                sessions[rest[0]] = hand_session(n, epoch, people[rest[0]])
                self.assertTrue(hand_is_ticket(SETUP, sessions[rest[0]].key, sessions[rest[0]].ticket))
            elif word == "show" and answer == "ok":
                name, gate, question = rest
                pairs = QUESTIONS[question]
                showing = hand_showing(sessions[name], (gate, moments[gate]), pairs,
                                       hand_noise(n, pairs, people[name][1:]))
                expected.append((epoch, moments[gate], gate, tuple(pairs), *showing))
                moments[gate] += 1
        found = town.gates["north"].log() + town.gates["a"].log()
        self.assertEqual(sorted(found), sorted(expected))
        self.assertGreater(len(found), 8)

    def test_again_draws_numbers_of_its_own(self):
        town = Town()
        for n, line in enumerate(("person ann 5 2 3", "gate a", "issue ann", "show ann a any", "epoch",
                                  "again ann a age > 1")):
            self.assertEqual(town.answer(n, line), "used" if n == 5 else "ok")
        session = hand_session(2, 0, (5, 2, 3))
        older = [pair for pair in ALL if pair[0] > 1]
        entries = [(0, moment, "a", tuple(pairs), *hand_showing(session, ("a", moment), pairs,
                                                               hand_noise(n, pairs, (2, 3))))
                   for moment, pairs, n in ((0, ALL, 3), (1, older, 5))]
        self.assertEqual(town.gates["a"].log(), entries)

    def test_the_issuers(self):
        for epoch in range(3):
            secret = 1 + hand_coin(3, epoch, "key") % 112
            self.assertEqual(hand_session(1, epoch, (5, 2, 3)).key, multiplied(113, SETUP[1][0], secret))


class DrawnScriptsTest(TownCase):

    def line(self, draw, n):
        """One of the lines that are possible, some more often than others."""
        name, gate, other = draw.choice(NAMES[:3]), draw.choice("ab"), draw.choice("ab")
        question = draw.choice(list(QUESTIONS))
        issues = [f"issue {name}"] * (8 if n < 15 else 3)
        shows = [f"show {name} {gate} any"] * 4 + [f"show {name} {gate} {question}"] * 3
        agains = [f"again {name} {gate} any"] * 2 + [f"again {name} {gate} {question}"]
        rare = (f"person {name} {n} 1 1", f"gate {gate}", "left dora", "crowd c", "epoch", f"power {name} {n % 3}")
        return draw.choice(issues + shows + agains + [
            f"save {name}", f"back {name}", f"left {name}", f"merge {gate} {other}", f"exposed {gate}",
            f"crowd {gate}", f"crowd {gate}", draw.choice(rare)])

    def test_by_the_rules(self):
        answers = {}
        for seed in range(120):
            draw = Random(seed)
            lines = [f"person {name} {n * 7} {draw.randrange(3)} {draw.randrange(4)}"
                     for n, name in enumerate(NAMES[:3])] + ["gate a", "gate b"]
            lines += [self.line(draw, n) for n in range(5, 40)]
            script = "\n".join(lines)
            wanted = HandTown().run(script)
            self.assertEqual(list(zip(lines, run_script(script))), list(zip(lines, wanted)))
            for line, answer in zip(lines, wanted):
                answers.setdefault(line.split(" ")[0], set()).add(answer)
        self.assertLessEqual({"ok", "form", "not", "missing", "down", "used"}, answers["show"] | answers["again"])
        self.assertGreater(len(answers["crowd"]), 20)
        self.assertGreater(len(answers["exposed"]), 3)


if __name__ == "__main__":
    unittest.main()
