import unittest

from cloak.lines import read_command

GOOD = {
    "person ann 5 2 3": ("person", "ann", 5, 2, 3),
    "person a 0 999 10": ("person", "a", 0, 999, 10),
    "person zzzz 112 4 4": ("person", "zzzz", 112, 4, 4),
    "gate a": ("gate", "a"),
    "gate abcdef": ("gate", "abcdef"),
    "issue ann": ("issue", "ann"),
    "epoch": ("epoch",),
    "left bob": ("left", "bob"),
    "show ann north age < 3": ("show", "ann", "north", "age < 3"),
    "again ann north age < 3": ("again", "ann", "north", "age < 3"),
    "save ann": ("save", "ann"),
    "back ann": ("back", "ann"),
    "power ann 0": ("power", "ann", 0),
    "power ann 999": ("power", "ann", 999),
    "merge north south": ("merge", "north", "south"),
    "merge a a": ("merge", "a", "a"),
    "exposed north": ("exposed", "north"),
    "crowd north": ("crowd", "north"),
}
WORDS = ("person", "gate", "issue", "epoch", "left", "show", "again", "save", "back", "power", "merge",
         "exposed", "crowd")


class LinesTest(unittest.TestCase):

    def check_bad(self, line):
        self.assertIsNone(read_command(line), line)

    def test_each_command(self):
        self.assertEqual({line.split(" ")[0] for line in GOOD}, set(WORDS))
        for line, command in GOOD.items():
            self.assertEqual(read_command(line), command)
            self.assertEqual([type(part) for part in (read_command(line), *read_command(line))],
                             [tuple] + [type(part) for part in command])

    def test_the_empty_line_and_lines_of_spaces(self):
        self.assertEqual(read_command(""), ())
        for line in (" ", "  ", "          "):
            self.check_bad(line)

    def test_words_that_begin_no_line(self):
        for line in ("persons ann 5 2 3", "Person ann 5 2 3", "EPOCH", "epochs", "ann", "gat a", "x", "0", "-",
                     "ok", "show", "again", "leave ann", "issued ann", "crowds north"):
            self.check_bad(line)

    def test_spaces(self):
        for line in GOOD:
            self.check_bad(" " + line)
            words = line.split(" ")
            names = 3 if words[0] in ("show", "again") else len(words)
            for at in range(1, names):
                self.check_bad(" ".join(words[:at] + [""] + words[at:]))
                self.check_bad(" ".join(words[:at]) + "\t" + " ".join(words[at:]))
            if names == len(words):
                self.check_bad(line + " ")
                self.check_bad(line + "  ")

    def test_a_word_more_or_fewer(self):
        for line in GOOD:
            words = line.split(" ")
            if words[0] in ("show", "again"):
                for end in (1, 2, 3):
                    self.check_bad(" ".join(words[:end]))
                for end in (1, 2):
                    self.check_bad(" ".join(words[:end] + [""]))
                continue
            for at in range(len(words)):
                if len(words) > 1:
                    self.check_bad(" ".join(words[:at] + words[at + 1:]))
            for word in ("a", "1", "ann", "north", "epoch", "-"):
                self.check_bad(line + " " + word)

    def test_names_of_people(self):
        for name in ("", "abcde", "Ann", "aNn", "ANN", "a1", "1", "a-b", "_", "a_", "a.", "\u00e9", "abcdef"):
            for line in ("person {} 5 2 3", "issue {}", "left {}", "show {} north any", "again {} north any",
                         "save {}", "back {}", "power {} 1"):
                self.check_bad(line.replace("{}", name))
        for name in ("a", "zz", "abc", "abcd"):
            self.assertEqual(read_command(f"left {name}"), ("left", name))

    def test_names_of_gates(self):
        for name in ("", "abcdefg", "North", "norTh", "a1", "1", "a-b", "_", "a_", "a.", "\u00e9"):
            for line in ("gate {}", "show ann {} any", "again ann {} any", "merge {} a", "merge a {}",
                         "exposed {}", "crowd {}"):
                self.check_bad(line.replace("{}", name))
        for name in ("a", "zz", "abc", "abcde", "abcdef"):
            self.assertEqual(read_command(f"gate {name}"), ("gate", name))
            self.assertEqual(read_command(f"show ann {name} any"), ("show", "ann", name, "any"))

    def test_numbers(self):
        lines = ("person ann {} 2 3", "person ann 5 {} 3", "person ann 5 2 {}", "power ann {}")
        for number in (0, 1, 9, 10, 99, 100, 112, 113, 998, 999):
            for line in lines:
                self.assertIn(number, read_command(line.replace("{}", str(number))))
        for number in ("1000", "1001", "9999", "00", "01", "007", "000", "-1", "-0", "+1", "", "1.0", "1x", "x",
                       "1e1", "1_0", "\u0661", "\u00b2", "0x1", "ten", "123456789"):
            for line in lines:
                self.check_bad(line.replace("{}", number))

    def test_questions(self):
        questions = ("", " ", "   ", "any", " any", "any ", "  any  ", "age  <   3", "age<3", "x", "Y",
                     "no question at all", " 1 2 ", "(", "show ann north any", "~", "age < 3 or zone == 1")
        for word in ("show", "again"):
            for question in questions:
                self.assertEqual(read_command(f"{word} ann north {question}"), (word, "ann", "north", question))
            self.assertEqual(read_command(f"{word} a b " + "x" * 400), (word, "a", "b", "x" * 400))

    def test_names_that_are_words_of_lines(self):
        self.assertEqual(read_command("gate gate"), ("gate", "gate"))
        self.assertEqual(read_command("person save 1 1 1"), ("person", "save", 1, 1, 1))
        self.assertEqual(read_command("show left crowd epoch"), ("show", "left", "crowd", "epoch"))


if __name__ == "__main__":
    unittest.main()
