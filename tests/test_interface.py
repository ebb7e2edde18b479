"""The names of the interface: where they are defined, and with which arguments."""

import importlib
import inspect
import unittest

FUNCTIONS = {
    "coins": ["coin(seed, n, text)", "challenge(q, text)", "joined_text(word, numbers)",
              "challenge_of(q, word, numbers)"],
    "groups": ["check_order(q)", "is_element(q, value)", "power(q, base, exponent)",
               "product(q, first, second)", "product_of_powers(q, bases, exponents)",
               "inverse(q, value)", "logarithm(q, base, value)", "quotient(q, first, second)",
               "setup_of(q, seed)", "check_setup(setup)"],
    "linear": ["rank(q, rows)", "solutions(q, unknowns, rows, right)",
               "count_solutions(q, unknowns, rows, right)"],
    "claims": ["check_claim(q, claim)", "are_values(q, claim, values)", "holds(q, claim, values)",
               "claim_numbers(claim)", "traces(q, claim, c, answers)",
               "known_values(q, claim, first, second)"],
    "choices": ["check_choice(q, choice)", "choice_numbers(choice)",
                "make_paper(q, text, choice, index, values, noise)",
                "check_paper(q, text, choice, paper)",
                "explain_paper(q, text, choice, paper, index, values)"],
    "commitments": ["commit(setup, value, blind)", "blind_of(setup, commitment, value)",
                    "claim_of(setup, commitment)", "value_claim(setup, commitment, value)",
                    "value_choice(setup, commitment, values)"],
    "passes": ["check_person(setup, person)", "mark_of(setup, person)"],
    "issuing": ["key_of(setup, secret)", "offer_of(setup, secret, person, w)",
                "request_of(setup, person, offer, blinding)", "grant_of(setup, secret, w, c)",
                "ticket_of(setup, key, person, offer, blinding, r)"],
    "tickets": ["inner_challenge(setup, ticket)", "is_ticket(setup, key, ticket)",
                "ticket_text(ticket)", "read_ticket(text)",
                "explain_ticket(setup, key, record, ticket, spend)"],
    "spends": ["spend_of(setup, person, blinding, d)", "is_spend(setup, ticket, spend)",
               "exposed(setup, ticket, first, second)",
               "is_exposure(setup, ticket, first, second, numbers)"],
    "pairs": ["all_pairs()", "index_of(pair)", "pair_at(index)", "check_set(pairs)",
              "set_text(pairs)"],
    "questions": ["read_question(text)", "question_text(tree)", "set_of(tree)",
                  "are_same(first, second)", "implies(first, second)", "holds(tree, pair)"],
    "showings": ["check_context(context)", "stage_numbers(context, pairs)",
                 "stage_challenge(setup, context, pairs)", "choice_of(setup, ticket, pairs)",
                 "paper_text(context, pairs, ticket, spend)",
                 "make_showing(setup, person, ticket, blinding, context, pairs, noise)",
                 "check_showing(setup, key, context, pairs, showing)",
                 "explain_showing(setup, key, record, context, pairs, showing)"],
    "purse": ["load_purse(counter, text)"],
    "gates": ["load_gate(name, text)"],
    "crowds": ["check_crowd(crowd)", "is_eligible(crowd, use, member)",
               "first_assignment(crowd, fixed)", "possible(crowd, use)",
               "witness(crowd, use, member)", "blocking(crowd, use, member)",
               "is_blocking(crowd, use, member, uses)"],
    "ways": ["count_assignments(crowd)", "count_ways(crowd)", "shares(crowd, use)",
             "told(crowd, further)", "keeps(crowd, own, further, wishes)",
             "first_reason(crowd, own, further, wishes)",
             "best_option(crowd, own, options, wishes)"],
    "sharing": ["value_at(q, polynomial, x)", "shares_of(q, polynomial, places)",
                "polynomial_of(q, points)", "secret_of(q, points)",
                "explain_shares(q, points, secret)"],
    "juries": ["check_jury(jury)", "seats_of(jury, juror)",
               "deal(setup, jury, polynomial, blinds)", "fits(setup, commitments, paper)",
               "open_secret(setup, jury, commitments, votes)",
               "explain_dealing(setup, commitments, papers, secret)"],
    "lines": ["read_command(line)"],
    "town": ["run_script(script)"],
}

# The classes with what they are made of, and the methods that they have.
CLASSES = {
    "purse": {
        "Register()": ["count(self, epoch)", "raise_to(self, epoch, count)", "supply(self, raises)"],
        "Purse(counter)": ["put(self, epoch, ticket, blinding)", "take(self, epoch)",
                           "left(self, epoch)", "size(self)", "image(self)"],
    },
    "gates": {
        "Gate(name)": ["name(self)", "moment(self)", "enter(self, setup, key, epoch, pairs, showing)",
                       "merge(self, other)", "log(self)", "exposures(self, setup)", "uses(self, epoch)",
                       "image(self)"],
    },
}

CONSTANTS = {
    "groups": {"LEAST_ORDER": 11, "GREATEST_ORDER": 1013},
    "claims": {"MAX_UNKNOWNS": 8, "MAX_EQUATIONS": 6},
    "choices": {"MAX_CLAIMS": 25},
    "pairs": {"AGES": 5, "ZONES": 5},
    "questions": {"MAX_QUESTION": 300, "MAX_LEVELS": 20},
    "purse": {"EPOCHS": 3, "MAX_HELD": 12},
    "crowds": {"MAX_MEMBERS": 10, "MAX_USES": 8, "MAX_TICKETS": 6, "EPOCHS": 3},
    "sharing": {"MAX_POINTS": 10},
    "juries": {"MAX_JURORS": 6, "MAX_WEIGHT": 5},
    "town": {"TOWN_ORDER": 113, "TOWN_SEED": 3},
}


class InterfaceTest(unittest.TestCase):

    def test_functions_are_defined_in_their_file_with_their_arguments(self):
        for module_name, signatures in FUNCTIONS.items():
            module = importlib.import_module("cloak." + module_name)
            for signature in signatures:
                function = getattr(module, signature.partition("(")[0])
                self.assertTrue(inspect.isfunction(function), signature)
                self.assertEqual(function.__module__, module.__name__, signature)
                self.assertEqual(function.__name__ + str(inspect.signature(function)), signature)

    def test_classes_are_defined_in_their_file_with_all_their_methods(self):
        for module_name, classes in CLASSES.items():
            module = importlib.import_module("cloak." + module_name)
            for made_of, signatures in classes.items():
                own = getattr(module, made_of.partition("(")[0])
                self.assertTrue(inspect.isclass(own), made_of)
                self.assertEqual(own.__module__, module.__name__, made_of)
                self.assertEqual(own.__name__ + str(inspect.signature(own)), made_of)
                for signature in signatures:
                    method = vars(own)[signature.partition("(")[0]]
                    self.assertTrue(inspect.isfunction(method), signature)
                    self.assertEqual(method.__name__ + str(inspect.signature(method)), signature)

    def test_constants(self):
        for module_name, constants in CONSTANTS.items():
            module = importlib.import_module("cloak." + module_name)
            for name, value in constants.items():
                self.assertEqual(getattr(module, name), value, name)


if __name__ == "__main__":
    unittest.main()
