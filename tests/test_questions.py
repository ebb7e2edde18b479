import ast
import re
import unittest
from itertools import product as all_lists

from cloak.errors import BadForm, NotAllowed
from cloak.questions import (
    MAX_LEVELS, MAX_QUESTION, are_same, holds, implies, question_text, read_question, set_of,
)
from helpers import hand_coin

ALL = [(age, zone) for age in range(5) for zone in range(5)]
SIDES = ("age", "zone", "age + zone", "age - zone", "zone - age")
RELATIONS = ("<", "<=", "==", "!=", ">", ">=")
ANY, NONE = ("any",), ("none",)
YOUNG, NEAR = ("is", "age", "<", 3), ("is", "zone", "==", 0)


def tree_of_python(text):
    """The tree of a question, read by Python, whose grammar reads questions alike."""
    apart = re.sub("([0-9])", r"\1 ", text)
    return tree_of_node(ast.parse(apart.strip(), mode="eval").body)


def tree_of_node(node):
    if isinstance(node, ast.BoolOp):
        word = "and" if isinstance(node.op, ast.And) else "or"
        tree = tree_of_node(node.values[0])
        for value in node.values[1:]:
            tree = (word, tree, tree_of_node(value))
        return tree
    if isinstance(node, ast.UnaryOp):
        return "not", tree_of_node(node.operand)
    if isinstance(node, ast.Name):
        return (node.id,)
    side, relation, number = ast.unparse(node).split(" ")[:-2], *ast.unparse(node).split(" ")[-2:]
    return "is", " ".join(side), relation, int(number)


def satisfied(tree, pair):
    """Whether a pair satisfies a tree, by its words; evaluated by Python."""
    age, zone = pair
    if tree[0] == "is":
        return eval(f"({tree[1]}) {tree[2]} ({tree[3]})", {"age": age, "zone": zone})
    if tree[0] in ("any", "none"):
        return tree[0] == "any"
    parts = [satisfied(part, pair) for part in tree[1:]]
    return {"not": not parts[0], "and": all(parts), "or": any(parts)}[tree[0]]


def drawn_tree(seed, n, depth):
    """A tree with drawn nodes, nested at most so deep."""
    kind = hand_coin(seed, n % 10 ** 6, "kind") % (8 if depth > 1 else 5)
    if kind < 3:
        number = hand_coin(seed, n % 10 ** 6, "number") % 19 - 9
        return ("is", SIDES[n % 5], RELATIONS[hand_coin(seed, n % 10 ** 6, "relation") % 6], number)
    if kind < 5:
        return ANY if kind == 3 else NONE
    if kind == 5:
        return "not", drawn_tree(seed, 2 * n + 1, depth - 1)
    return ("and" if kind == 6 else "or", drawn_tree(seed, 2 * n + 1, depth - 1),
            drawn_tree(seed, 2 * n + 2, depth - 1))


class ReadTest(unittest.TestCase):

    def check_bad(self, *texts):
        for text in texts:
            with self.assertRaises(BadForm, msg=text):
                read_question(text)

    def test_constants(self):
        self.assertEqual((MAX_QUESTION, MAX_LEVELS), (300, 20))

    def test_each_kind_of_node(self):
        self.assertEqual(read_question("any"), ("any",))
        self.assertEqual(read_question("none"), ("none",))
        self.assertEqual(read_question("age < 3"), ("is", "age", "<", 3))
        self.assertEqual(read_question("not any"), ("not", ("any",)))
        self.assertEqual(read_question("any and none"), ("and", ANY, NONE))
        self.assertEqual(read_question("any or none"), ("or", ANY, NONE))
        self.assertEqual(read_question("(any)"), ("any",))
        self.assertEqual(read_question("((age<3))"), ("is", "age", "<", 3))

    def test_all_tests(self):
        for side in SIDES:
            for relation in RELATIONS:
                for number in range(10):
                    for sign in ("", "-"):
                        tree = ("is", side, relation, int(sign + str(number)))
                        text = f"{side} {relation} {sign}{number}"
                        self.assertEqual(read_question(text), tree)
                        self.assertEqual(read_question(text.replace(" ", "")), tree)
                        self.assertEqual(read_question(text.replace(" ", "   ")), tree)

    def test_kinds(self):
        tree = read_question("not(age<3)")
        self.assertEqual([type(tree), type(tree[1]), type(tree[1][3])], [tuple, tuple, int])

    def test_minus(self):
        self.assertEqual(read_question("age < - 3"), ("is", "age", "<", -3))
        self.assertEqual(read_question("age<-3"), ("is", "age", "<", -3))
        self.assertEqual(read_question("age - zone<-   9"), ("is", "age - zone", "<", -9))
        self.assertEqual(read_question("age < -0"), ("is", "age", "<", 0))
        self.assertEqual(str(read_question("age < -0")[3]), "0")
        self.check_bad("age < 12", "age < 1 2", "age < -12", "age < --1", "age < - - 1", "age < +1",
                       "age < -", "age < 01", "age < 00", "age < -a", "age < (1)", "age < 1-", "-1")

    def test_spaces_at_all_places(self):
        parts = ["(", "age", "-", "zone", "<=", "-", "3", ")", "or", "not", "(", "age", "+", "zone",
                 "!=", "2", "or", "any", ")", "and", "zone", ">", "0"]
        tree = tree_of_python("(age - zone <= -3) or not (age + zone != 2 or any) and zone > 0")
        self.assertEqual(read_question(" ".join(parts)), tree)
        self.assertEqual(read_question("   ".join(["", *parts, ""])), tree)
        self.assertEqual(read_question("(age-zone<=-3)or not(age+zone!=2or any)and zone>0"), tree)
        for at in range(len(parts) + 1):
            text = "(age-zone<=-3)or not(age+zone!=2or any)and zone>0"
            places = [0]
            for part in parts:
                places.append(text.index(part, places[-1]) + len(part))
            for many in (1, 2, 9):
                wider = text[:places[at]] + " " * many + text[places[at]:]
                self.assertEqual(read_question(wider), tree, wider)

    def test_no_space_within_a_part(self):
        self.check_bad("a ny", "n one", "no t any", "ag e < 3", "age < = 3", "age = = 3", "age ! = 3",
                       "age > = 3", "any a nd any", "any o r any", "z one < 3")

    def test_words_that_run_into_one_another(self):
        self.assertEqual(read_question("(any)and(none)"), ("and", ANY, NONE))
        self.assertEqual(read_question("age<3or zone==0"), ("or", YOUNG, NEAR))
        self.assertEqual(read_question("age<3and zone==0"), ("and", YOUNG, NEAR))
        self.assertEqual(read_question("not(any)or(any)"), ("or", ("not", ANY), ANY))
        self.check_bad("notany", "anyor none", "any ornone", "anyandnone", "any andnone", "notage < 3",
                       "age < 3orzone == 0", "anyany", "agezone < 3", "nonenone", "notnot any",
                       "any3", "3any", "age3")

    def test_marks(self):
        self.assertEqual(read_question("age<=3"), ("is", "age", "<=", 3))
        self.assertEqual(read_question("age<3"), ("is", "age", "<", 3))
        self.assertEqual(read_question("age>=-3"), ("is", "age", ">=", -3))
        self.check_bad("age = 3", "age ! 3", "age =< 3", "age => 3", "age === 3", "age <== 3",
                       "age !== 3", "age <> 3", "age >< 3", "age << 3", "age <=> 3", "age =", "=", "!",
                       "age !", "age <", "age < <= 3", "! any", "!any", "age =! 3", "age 3", "age")

    def test_rows_are_grouped_from_the_left(self):
        self.assertEqual(read_question("any or none or any"), ("or", ("or", ANY, NONE), ANY))
        self.assertEqual(read_question("any and none and any"), ("and", ("and", ANY, NONE), ANY))
        self.assertEqual(read_question("any or (none or any)"), ("or", ANY, ("or", NONE, ANY)))
        self.assertEqual(read_question("any and (none and any)"), ("and", ANY, ("and", NONE, ANY)))
        self.assertEqual(read_question("any or none and any or none"),
                         ("or", ("or", ANY, ("and", NONE, ANY)), NONE))
        self.assertEqual(read_question("not any and none"), ("and", ("not", ANY), NONE))
        self.assertEqual(read_question("not age < 3 or any"), ("or", ("not", YOUNG), ANY))
        self.assertEqual(read_question("not (any and none)"), ("not", ("and", ANY, NONE)))
        self.assertEqual(read_question("not not any"), ("not", ("not", ANY)))

    def test_lengths(self):
        for text in ("any", "any or any or any"):
            for many in (299, 300):
                for wider in (text.ljust(many), text.rjust(many), text.center(many)):
                    self.assertEqual(len(wider), many)
                    self.assertEqual(read_question(wider), tree_of_python(text))
            self.check_bad(text.ljust(301), text.rjust(301), text.center(301), text.ljust(302))
        row = "age<1" + "or age<1" * 36
        self.assertEqual(len(row), 293)
        self.assertEqual(read_question(row + "or any "), tree_of_python(row + " or any"))
        self.check_bad(row + "or any  ", row + "or none ")
        self.check_bad("any" + " " * 10 ** 5, "(" * 10 ** 5, "any or " * 10 ** 5)

    def test_levels(self):
        for many in (1, 2, 19, 20):
            self.assertEqual(read_question("(" * many + "any" + ")" * many), ANY)
            tree = ANY
            for _ in range(many):
                tree = ("not", tree)
            self.assertEqual(read_question("not " * many + "any"), tree)
        for many in (21, 22, 40, 148):
            self.check_bad("(" * many + "any" + ")" * many)
        for many in (21, 22, 40, 70):
            self.check_bad("not " * many + "any")
        self.check_bad("(" * 297 + "any", "(" * 300, "not " * 75)

    def test_levels_of_both_kinds(self):
        self.assertEqual(read_question("not(" * 10 + "any" + ")" * 10), read_question("not " * 10 + "any"))
        self.assertEqual(read_question("(" * 19 + "not any" + ")" * 19), ("not", ANY))
        self.check_bad("not(" * 10 + "not any" + ")" * 10, "not(" * 10 + "(any)" + ")" * 10,
                       "(" * 20 + "not any" + ")" * 20, "not " * 20 + "(any)",
                       "any or " + "(" * 21 + "any" + ")" * 21,
                       "(" * 20 + "any and not age < 3" + ")" * 20)
        deep = "(" * 10 + "none or " + "(" * 10 + "any" + ")" * 20
        self.assertEqual(read_question(deep), ("or", NONE, ANY))

    def test_levels_beside_one_another(self):
        for word in ("and", "or"):
            text = f" {word} ".join(["(any)"] * 30)
            self.assertEqual(read_question(text), tree_of_python(text))
            text = f" {word} ".join(["not any"] * 24)
            self.assertEqual(read_question(text), tree_of_python(text))
        deep = "(" * 20 + "any" + ")" * 20
        self.assertEqual(read_question(f"{deep} or {deep} and {deep}"), ("or", ANY, ("and", ANY, ANY)))
        self.assertEqual(read_question("(" + "(" * 19 + "any" + ")" * 19 + " and not not any)"),
                         ("and", ANY, ("not", ("not", ANY))))

    def test_what_does_not_belong_to_the_grammar(self):
        self.check_bad("", " ", "   ", "()", "(", ")", "not", "and", "or", "any any", "any none",
                       "any or", "or any", "any and", "and any", "any not any", "any or or any",
                       "any and or any", "(any", "any)", "((any)", "(any))", ")any(", "any()", "(any)(any)",
                       "not ()", "not or", "age", "zone", "3", "age < zone", "3 < age", "age < 3 < 4",
                       "age < 3 3", "age + age < 3", "zone + age < 3", "zone + zone < 3",
                       "age - age < 3", "zone - zone < 3", "age + 3 < 3", "3 - age < 3",
                       "-age < 3", "age + zone + age < 3", "(age) < 3", "age < any", "any < 3",
                       "(age + zone) < 3", "age + (zone) < 3", "age * zone < 3", "age - < 3", "true",
                       "all", "nor", "xor", "ages < 3", "zones < 3", "if", "anything", "age is 3",
                       "not not", "none none")

    def test_characters_that_do_not_belong_to_the_grammar(self):
        for code in range(32, 127):
            if chr(code) not in "()" and not chr(code).isalnum() and chr(code) != " ":
                self.check_bad(f"any {chr(code)}", f"{chr(code)} any", f"any{chr(code)}any")
        self.check_bad("Any", "ANY", "aNy", "AGE < 3", "Age < 3", "any OR none", "any\nor none",
                       "any\tor none", "any\n", "\tany", "any_", "_", "age < \u0663", "age \u2264 3",
                       "\u0430ny", "any\u00a0or none", "age < 3.", "age < 3;", "[any]", "{any}")

    def sentences(self, longest):
        """All rows of parts of the grammar, up to a length, by its rules."""
        sides = [["age"], ["zone"], ["age", "+", "zone"], ["age", "-", "zone"], ["zone", "-", "age"]]
        numbers = [["1"], ["-", "1"]]
        units = {tuple(side + [relation] + number) for side in sides for relation in ("<", "==")
                 for number in numbers} | {("any",), ("none",)}
        boths, questions = set(), set()
        for _ in range(longest):
            boths |= units | {row + ("and",) + unit for row in boths for unit in units}
            boths = {row for row in boths if len(row) <= longest}
            questions |= boths | {row + ("or",) + both for row in questions for both in boths}
            questions = {row for row in questions if len(row) <= longest}
            units |= {("not",) + unit for unit in units} | {("(", *row, ")") for row in questions}
            units = {row for row in units if len(row) <= longest}
        return questions

    def test_all_short_rows_of_parts(self):
        alphabets = ((5, ("not", "(", ")", "any", "and", "or", "none")),
                     (6, ("age", "zone", "+", "-", "<", "1")),
                     (4, ("not", "(", ")", "any", "and", "or", "age", "zone", "+", "-", "<", "==", "1")))
        sentences = self.sentences(6)
        accepted = 0
        for longest, alphabet in alphabets:
            for length in range(longest + 1):
                for row in all_lists(alphabet, repeat=length):
                    try:
                        tree = read_question(" ".join(row))
                    except BadForm:
                        tree = None
                    self.assertEqual(tree is not None, row in sentences, row)
                    if tree is not None:
                        accepted += 1
                        self.assertEqual(tree, tree_of_python(" ".join(row)))
        self.assertGreater(accepted, 100)


class SetTest(unittest.TestCase):

    def test_against_trying_all_pairs(self):
        for n in range(400):
            tree = drawn_tree(1, n, 6)
            expected = [pair for pair in ALL if satisfied(tree, pair)]
            self.assertEqual(set_of(tree), expected)
            for pair in ALL:
                self.assertIs(holds(tree, pair), pair in expected)

    def test_all_tests(self):
        values = {"age": lambda age, zone: age, "zone": lambda age, zone: zone,
                  "age + zone": lambda age, zone: age + zone,
                  "age - zone": lambda age, zone: age - zone,
                  "zone - age": lambda age, zone: zone - age}
        relations = {"<": [-1], "<=": [-1, 0], "==": [0], "!=": [-1, 1], ">": [1], ">=": [0, 1]}
        for side in SIDES:
            for relation in RELATIONS:
                for number in (*range(-9, 10), 10 ** 99, -10 ** 99, 10 ** 100 - 1, 1 - 10 ** 100):
                    expected = []
                    for pair in ALL:
                        value = values[side](*pair)
                        if (value > number) - (value < number) in relations[relation]:
                            expected.append(pair)
                    self.assertEqual(set_of(("is", side, relation, number)), expected)

    def test_any_and_none(self):
        self.assertEqual(set_of(ANY), ALL)
        self.assertEqual(set_of(NONE), [])
        self.assertEqual(set_of(("not", ANY)), [])
        self.assertEqual(set_of(("not", NONE)), ALL)
        for first in (ANY, NONE):
            for second in (ANY, NONE):
                self.assertEqual(set_of(("and", first, second)) == ALL, first == second == ANY)
                self.assertEqual(set_of(("or", first, second)) == [], first == second == NONE)

    def test_the_list_is_a_new_one(self):
        for tree in (ANY, YOUNG, NONE):
            expected = set_of(tree)[:]
            set_of(tree).append((9, 9))
            found = set_of(tree)
            found.clear()
            self.assertEqual(set_of(tree), expected)

    def deep_trees(self):
        """Trees that are nested 100 deep, with their sets."""
        for tree, pairs in ((YOUNG, [pair for pair in ALL if pair[0] < 3]), (ANY, ALL), (NONE, [])):
            other = [pair for pair in ALL if pair not in pairs]
            nots, left_and, right_and, left_or, right_or = [tree] * 5
            for _ in range(99):
                nots = ("not", nots)
                left_and, right_and = ("and", left_and, ANY), ("and", ANY, right_and)
                left_or, right_or = ("or", left_or, NONE), ("or", NONE, right_or)
            yield nots, other
            for deep in (left_and, right_and, left_or, right_or):
                yield deep, pairs

    def test_trees_nested_100_deep(self):
        for tree, pairs in self.deep_trees():
            self.assertEqual(set_of(tree), pairs)
            self.assertIs(are_same(tree, ("not", tree)), False)
            self.assertIs(are_same(tree, tree), True)
            self.assertIs(implies(tree, tree), True)
            for pair in ALL:
                self.assertIs(holds(tree, pair), pair in pairs)

    def test_are_same_and_implies(self):
        trees = [drawn_tree(2, n, 3) for n in range(60)]
        sets = [[pair for pair in ALL if satisfied(tree, pair)] for tree in trees]
        found = 0
        for first, its in zip(trees, sets):
            for second, others in zip(trees, sets):
                self.assertIs(are_same(first, second), its == others)
                self.assertIs(implies(first, second), set(its) <= set(others))
                found += 0 < len(its) < len(others) < 25 and set(its) <= set(others)
        self.assertGreater(found, 10)

    def test_same_and_implied_written_out(self):
        read = read_question
        self.assertIs(are_same(read("age < 3"), read("not age >= 3")), True)
        self.assertIs(are_same(read("age < 3"), read("age <= 3")), False)
        self.assertIs(are_same(read("age - zone < 0"), read("zone - age > 0")), True)
        self.assertIs(implies(read("age < 2"), read("age < 3")), True)
        self.assertIs(implies(read("age < 3"), read("age < 2")), False)
        self.assertIs(implies(read("none"), read("none")), True)
        self.assertIs(implies(read("none"), read("age < 2")), True)
        self.assertIs(implies(read("any"), read("age < 4")), False)
        self.assertIs(implies(read("any"), read("age <= 4")), True)

    def test_holds_for_what_is_no_pair(self):
        great = 10 ** 1000
        for tree in (ANY, NONE, YOUNG, ("not", YOUNG), ("or", ANY, NEAR)):
            for pair in ((-1, 0), (0, -1), (5, 0), (0, 5), (4, 5), (5, 4), (-1, -1), (great, 0),
                         (0, -great), (1, -5), (-1, 5), (25, 25)):
                with self.assertRaises(NotAllowed):
                    holds(tree, pair)

    def test_the_example_of_the_document(self):
        tree = read_question("not(age<3 or zone-age>=1)and any")
        self.assertEqual(tree, ("and", ("not", ("or", ("is", "age", "<", 3),
                                                ("is", "zone - age", ">=", 1))), ("any",)))
        self.assertEqual(question_text(tree), "not (age < 3 or zone - age >= 1) and any")
        self.assertEqual(len(set_of(tree)), 9)
        self.assertIs(holds(tree, (4, 4)), True)


class TextTest(unittest.TestCase):

    def test_parts(self):
        self.assertEqual(question_text(ANY), "any")
        self.assertEqual(question_text(NONE), "none")
        for side in SIDES:
            for relation in RELATIONS:
                for number in (0, 3, 9, -1, -9, 12, -345):
                    self.assertEqual(question_text(("is", side, relation, number)),
                                     f"{side} {relation} {number}")
        self.assertEqual(question_text(("is", "age", "<", -3)), "age < -3")
        self.assertEqual(question_text(("is", "age", "<", -10 ** 99)), "age < -1" + "0" * 99)

    def test_each_pair_of_an_outer_and_an_inner_node(self):
        inner = {"age < 3": YOUNG, "any": ANY, "not any": ("not", ANY),
                 "any and none": ("and", ANY, NONE), "any or none": ("or", ANY, NONE)}
        bare = {"not": ("age < 3", "any", "not any"),
                "and left": ("age < 3", "any", "not any", "any and none"),
                "and right": ("age < 3", "any", "not any"),
                "or left": ("age < 3", "any", "not any", "any and none", "any or none"),
                "or right": ("age < 3", "any", "not any", "any and none")}
        for text, tree in inner.items():
            expected = {place: text if text in texts else f"({text})" for place, texts in bare.items()}
            self.assertEqual(question_text(("not", tree)), f"not {expected['not']}")
            self.assertEqual(question_text(("and", tree, NONE)), f"{expected['and left']} and none")
            self.assertEqual(question_text(("and", NONE, tree)), f"none and {expected['and right']}")
            self.assertEqual(question_text(("or", tree, NONE)), f"{expected['or left']} or none")
            self.assertEqual(question_text(("or", NONE, tree)), f"none or {expected['or right']}")
            for other, second in inner.items():
                both = {place: other if other in texts else f"({other})"
                        for place, texts in bare.items()}
                self.assertEqual(question_text(("and", tree, second)),
                                 f"{expected['and left']} and {both['and right']}")
                self.assertEqual(question_text(("or", tree, second)),
                                 f"{expected['or left']} or {both['or right']}")

    def test_reading_it_back_gives_the_tree(self):
        for n in range(600):
            tree = drawn_tree(3, n, 5)
            text = question_text(tree)
            self.assertEqual(tree_of_python(text), tree)
            if len(text) <= 300:
                self.assertEqual(read_question(text), tree)

    def test_no_parentheses_can_be_left_out(self):
        found = 0
        for n in range(200):
            tree = drawn_tree(4, n, 4)
            text = question_text(tree)
            for start in [at for at, sign in enumerate(text) if sign == "("]:
                depth, end = 1, start + 1
                while depth:
                    depth += {"(": 1, ")": -1}.get(text[end], 0)
                    end += 1
                without = text[:start] + text[start + 1:end - 1] + text[end:]
                self.assertNotEqual(tree_of_python(without), tree)
                found += 1
        self.assertGreater(found, 30)

    def test_trees_nested_100_deep(self):
        nots = left = right = mixed = ANY
        for at in range(99):
            nots = ("not", nots)
            left, right = ("or", left, ANY), ("and", ANY, right)
            mixed = ("not", ("and", NONE, mixed)) if at < 49 else mixed
        self.assertEqual(question_text(nots), "not " * 99 + "any")
        self.assertEqual(question_text(left), "any" + " or any" * 99)
        self.assertEqual(question_text(right), "any and (" * 98 + "any and any" + ")" * 98)
        self.assertEqual(question_text(mixed), "not (none and " * 49 + "any" + ")" * 49)


if __name__ == "__main__":
    unittest.main()
