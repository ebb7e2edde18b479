"""What holds for every function and method: arguments stay as they are, and are not kept;
lists that are returned are new ones; the same call has the same answer."""

import copy
import importlib
import unittest

from cloak.gates import Gate, load_gate
from cloak.purse import Purse, Register, load_purse
from crowding import EXAMPLE, YOUNG
from helpers import hand_paper
from sessions import Session
from stages import hand_showing, noise_for
from test_interface import CLASSES, FUNCTIONS

SETUP = (53, (9, 12, 64, 81, 44))
PERSON = (11, 2, 4)
BLINDING = (5, 9, 20, (1, 2, 3, 4))
SESSION = Session(SETUP, 8, PERSON, 30, BLINDING)
KEY, TICKET, RECORD = SESSION.key, SESSION.ticket, SESSION.record
PAIRS = [(0, 4), (2, 4), (3, 0)]
CONTEXT = ("north", 0)
NOISE = noise_for(SESSION, PAIRS, 1)
SHOWING = hand_showing(SESSION, CONTEXT, PAIRS, NOISE)
CLAIM = (1, ((18, (4,)),))
PAPER = hand_paper(11, "hello", (CLAIM,), 0, (3,), ((0, (7,)),))
TREE = ("and", ("not", ("is", "age", "<", 3)), ("or", ("any",), ("none",)))
FURTHER = (0, YOUNG, None)
WISHES = [(YOUNG, 3), (None, 1)]
JURY = ((2, 0, 3, 1), 3)
IMAGE = "ticket 0 0 1 2 3 4 5 6 7 8 9 10 11 12 13"
LOG = "north 0 5 1 4 1 2 3 4 5 6 7 8 9 10 11 12 13 14"


def dealing():
    return importlib.import_module("cloak.juries").deal(SETUP, JURY, [17, 40, 5], [9, 0, 52])


def votes():
    papers = dealing()[1]
    return [(3, tuple(papers[5:])), (0, tuple(papers[:2])), (1, ())]


# Arguments with which each function returns something.
CALLS = {
    "coins": {"coin": (3, 4, "text"), "challenge": (53, "text"), "joined_text": ("word", [1, -2, 3]),
              "challenge_of": (53, "word", [1, -2, 3])},
    "groups": {"check_order": (53,), "is_element": (53, 9), "power": (53, 9, -7), "product": (53, 9, 12),
               "product_of_powers": (53, [9, 12], [3, -4]), "inverse": (53, 9), "logarithm": (53, 9, 12),
               "quotient": (53, 3, 4), "setup_of": (53, 7), "check_setup": (SETUP,)},
    "linear": {"rank": (11, [[1, 0, 2], [0, 1, 5]]), "solutions": (11, 3, [[1, 0, 2], [0, 0, 0]], [5, 0]),
               "count_solutions": (11, 3, [[1, 0, 2], [1, 0, 2]], [5, 6])},
    "claims": {"check_claim": (11, CLAIM), "are_values": (11, CLAIM, (3,)), "holds": (11, CLAIM, (3,)),
               "claim_numbers": (CLAIM,), "traces": (11, CLAIM, 3, (4,)),
               "known_values": (11, CLAIM, (1, (10,)), (0, (7,)))},
    "choices": {"check_choice": (11, (CLAIM,)), "choice_numbers": ((CLAIM,),),
                "make_paper": (11, "hello", (CLAIM,), 0, (3,), ((0, (7,)),)),
                "check_paper": (11, "hello", (CLAIM,), PAPER),
                "explain_paper": (11, "hello", (CLAIM,), PAPER, 0, (3,))},
    "commitments": {"commit": (SETUP, 3, 4), "blind_of": (SETUP, 9, 4), "claim_of": (SETUP, 9),
                    "value_claim": (SETUP, 9, 4), "value_choice": (SETUP, 9, [4, 5, 4])},
    "passes": {"check_person": (SETUP, PERSON), "mark_of": (SETUP, PERSON)},
    "issuing": {"key_of": (SETUP, 8), "offer_of": (SETUP, 8, PERSON, 30),
                "request_of": (SETUP, PERSON, SESSION.offer, BLINDING), "grant_of": (SETUP, 8, 30, SESSION.c),
                "ticket_of": (SETUP, KEY, PERSON, SESSION.offer, BLINDING, SESSION.r)},
    "tickets": {"inner_challenge": (SETUP, TICKET), "is_ticket": (SETUP, KEY, TICKET), "ticket_text": (TICKET,),
                "read_ticket": ("1 2 3 4 5 6",), "explain_ticket": (SETUP, KEY, RECORD, TICKET, SESSION.spend(3))},
    "spends": {"spend_of": (SETUP, PERSON, BLINDING, 3), "is_spend": (SETUP, TICKET, SESSION.spend(3)),
               "exposed": (SETUP, TICKET, SESSION.spend(3), SESSION.spend(4)),
               "is_exposure": (SETUP, TICKET, SESSION.spend(3), SESSION.spend(4), PERSON)},
    "pairs": {"all_pairs": (), "index_of": ((1, 2),), "pair_at": (7,), "check_set": (PAIRS,), "set_text": (PAIRS,)},
    "questions": {"read_question": ("age < 3 and any",), "question_text": (TREE,), "set_of": (TREE,),
                  "are_same": (TREE, TREE), "implies": (TREE, TREE), "holds": (TREE, (3, 1))},
    "showings": {"check_context": (CONTEXT,), "stage_numbers": (CONTEXT, PAIRS),
                 "stage_challenge": (SETUP, CONTEXT, PAIRS), "choice_of": (SETUP, TICKET, PAIRS),
                 "paper_text": (CONTEXT, PAIRS, TICKET, SESSION.spend(3)),
                 "make_showing": (SETUP, PERSON, TICKET, BLINDING, CONTEXT, PAIRS, NOISE),
                 "check_showing": (SETUP, KEY, CONTEXT, PAIRS, SHOWING),
                 "explain_showing": (SETUP, KEY, RECORD, CONTEXT, PAIRS, SHOWING)},
    "purse": {"load_purse": (Register(), IMAGE)},
    "gates": {"load_gate": ("north", LOG)},
    "crowds": {"check_crowd": (EXAMPLE,), "is_eligible": (EXAMPLE, 0, 1), "first_assignment": (EXAMPLE, [None, 2]),
               "possible": (EXAMPLE, 0), "witness": (EXAMPLE, 1, 2), "blocking": (EXAMPLE, 1, 1),
               "is_blocking": (EXAMPLE, 1, 1, [1])},
    "ways": {"count_assignments": (EXAMPLE,), "count_ways": (EXAMPLE,), "shares": (EXAMPLE, 0),
             "told": (EXAMPLE, FURTHER), "keeps": (EXAMPLE, [1, 0], FURTHER, WISHES),
             "first_reason": (EXAMPLE, [1, 0], FURTHER, WISHES),
             "best_option": (EXAMPLE, [1, 0], [(3, FURTHER), (2, FURTHER)], [])},
    "sharing": {"value_at": (11, [3, 5], 4), "shares_of": (11, [3, 5], [2, 1]),
                "polynomial_of": (11, [(3, 7), (1, 8)]), "secret_of": (11, [(3, 7), (1, 8)]),
                "explain_shares": (11, [(1, 8)], 0)},
    "juries": {"check_jury": (JURY,), "seats_of": (JURY, 2), "deal": (SETUP, JURY, [17, 40, 5], [9, 0, 52]),
               "fits": (SETUP, dealing()[0], dealing()[1][3]),
               "open_secret": (SETUP, JURY, dealing()[0], votes()),
               "explain_dealing": (SETUP, dealing()[0], dealing()[1][1:3], 7)},
    "lines": {"read_command": ("person ann 5 2 3",)},
    "town": {"run_script": ("person ann 5 2 3\ngate a\nissue ann\nshow ann a any\ncrowd a",)},
}


def gate():
    made = load_gate("north", LOG)
    made.enter(SETUP, KEY, 1, PAIRS, hand_showing(SESSION, ("north", 6), PAIRS, NOISE))
    return made


def purse():
    return load_purse(Register(), IMAGE)


def other_gate():
    return load_gate("south", LOG.replace("north", "south"))


# For each method: how the object is made, and arguments.
METHODS = {
    "Register": {"count": (Register, (1,)), "raise_to": (Register, (1, 2)), "supply": (Register, (3,))},
    "Purse": {"put": (purse, (1, TICKET, BLINDING)), "take": (purse, (0,)), "left": (purse, (0,)),
              "size": (purse, ()), "image": (purse, ())},
    "Gate": {"name": (gate, ()), "moment": (gate, ()), "merge": (gate, (other_gate(),)), "log": (gate, ()),
             "enter": (lambda: Gate("north"), (SETUP, KEY, 1, PAIRS, SHOWING)), "exposures": (gate, (SETUP,)),
             "uses": (gate, (0,)), "image": (gate, ())},
}


def shown(value):
    """A value as a text, with what objects keep."""
    if isinstance(value, (list, tuple)):
        return type(value).__name__ + "(" + ", ".join(shown(part) for part in value) + ")"
    if isinstance(value, (Gate, Purse, Register)):
        return type(value).__name__ + shown(sorted((name, shown(part)) for name, part in vars(value).items()))
    return repr(value)


def spoilt(value):
    """Clear all lists in a value."""
    if isinstance(value, (list, tuple)):
        for part in value:
            spoilt(part)
    if isinstance(value, list):
        value.clear()


class WholeTest(unittest.TestCase):

    def test_each_function_of_the_interface_is_here(self):
        for calls, wanted in ((CALLS, FUNCTIONS),
                              (METHODS, {made_of.partition("(")[0]: methods for classes in CLASSES.values()
                                         for made_of, methods in classes.items()})):
            self.assertEqual({key: sorted(group) for key, group in calls.items()},
                             {key: sorted(signature.partition("(")[0] for signature in group)
                              for key, group in wanted.items()})

    def test_functions(self):
        for module_name, calls in CALLS.items():
            module = importlib.import_module("cloak." + module_name)
            for name, arguments in calls.items():
                passed = copy.deepcopy(arguments)
                answer = getattr(module, name)(*passed)
                self.assertEqual(shown(passed), shown(arguments), name)
                first = shown(answer)
                spoilt(answer)
                self.assertEqual(shown(passed), shown(arguments), name)
                self.assertEqual(shown(getattr(module, name)(*passed)), first, name)

    def test_methods(self):
        for calls in METHODS.values():
            for name, (made, arguments) in calls.items():
                first, second, passed = made(), made(), copy.deepcopy(arguments)
                answer = getattr(first, name)(*passed)
                self.assertEqual(shown(passed), shown(arguments), name)
                text, state = shown(answer), shown(first)
                spoilt(answer)
                spoilt(passed)
                self.assertEqual(shown(first), state, name)
                self.assertEqual(shown(getattr(second, name)(*copy.deepcopy(arguments))), text, name)
                self.assertEqual(shown(second), state, name)


if __name__ == "__main__":
    unittest.main()
