"""Showings: a gate learns that a question is satisfied, and nothing else."""

from cloak.choices import check_paper, explain_paper, make_paper
from cloak.coins import challenge_of, joined_text
from cloak.errors import BadPaper, Missing, NotAllowed
from cloak.groups import check_element, product_of_powers
from cloak.pairs import check_set, place_of
from cloak.spends import is_spend, spend_of
from cloak.tickets import explain_ticket, is_ticket

_LONGEST_NAME = 6
_GREATEST_MOMENT = 999999


def check_context(context):
    """Raise NotAllowed if the tuple of a text and an integer is not a context."""
    gate, moment = context
    if not is_gate_name(gate):
        raise NotAllowed("the name of a gate has from 1 to 6 small letters")
    if moment < 0 or moment > _GREATEST_MOMENT:
        raise NotAllowed("a moment is from 0 to 999999")


def is_gate_name(text):
    """True if the text is the name of a gate, otherwise False."""
    # Letters of other languages would pass the other tests.
    return len(text) <= _LONGEST_NAME and text.isascii() and text.isalpha() and text.islower()


def stage_numbers(context, pairs):
    """The list of the numbers of the stage."""
    check_context(context)
    check_set(pairs)
    return unchecked_numbers(context, pairs)


def unchecked_numbers(context, pairs):
    """The numbers of the stage by their rule, whatever the context and the pairs are."""
    return [context[1], len(pairs), *[place_of(pair) for pair in pairs]]


def stage_challenge(setup, context, pairs):
    """The challenge of the stage."""
    q, _ = setup
    numbers = stage_numbers(context, pairs)
    return challenge_of(q, f"show {context[0]}", numbers)


def choice_of(setup, ticket, pairs):
    """The choice of the ticket for a set that is not empty."""
    q, _ = setup
    check_stage_set(pairs)
    check_element(q, ticket[0])
    return tuple([pair_claim(setup, ticket[0], pair) for pair in pairs])


def check_stage_set(pairs):
    """Raise NotAllowed if the list is no set of pairs, or the empty one."""
    check_set(pairs)
    if not pairs:
        raise NotAllowed("a showing is for at least one pair")


def pair_claim(setup, first, pair):
    """The claim that a ticket with this first number is that of a person with the pair."""
    q, bases = setup
    _, g0, g1, g2, g3 = bases
    return 2, ((first, (product_of_powers(q, (g0, g2, g3), (1, *pair)), g1)),)


def pair_values(q, person, blinding):
    """The values for which the claim of the person's own pair holds."""
    s = blinding[0]
    return s, s * person[0] % q


def paper_text(context, pairs, ticket, spend):
    """The text of the paper."""
    d, answers = spend
    numbers = [*unchecked_numbers(context, pairs), *ticket, d, *answers]
    return joined_text(f"paper {context[0]}", numbers)


def make_showing(setup, person, ticket, blinding, context, pairs, noise):
    """The showing of a person who has the ticket with its blinding."""
    q, _ = setup
    d = stage_challenge(setup, context, pairs)
    if person[1:] not in pairs:
        raise Missing("the pair of the person is not in the set")
    spend = spend_of(setup, person, blinding, d)
    paper = make_paper(q, paper_text(context, pairs, ticket, spend), choice_of(setup, ticket, pairs),
                       pairs.index(person[1:]), pair_values(q, person, blinding), noise)
    return ticket, spend, paper


def check_showing(setup, key, context, pairs, showing):
    """Raise an error if the showing is not right for the key, the context and the set."""
    q, _ = setup
    d = stage_challenge(setup, context, pairs)
    check_stage_set(pairs)
    ticket, spend, paper = showing
    if not is_ticket(setup, key, ticket):
        raise BadPaper("the ticket is not one of the key")
    if spend[0] != d or not is_spend(setup, ticket, spend):
        raise BadPaper("the spend is not one of the ticket for this stage")
    check_paper(q, paper_text(context, pairs, ticket, spend), choice_of(setup, ticket, pairs), paper)


def explain_showing(setup, key, record, context, pairs, showing):
    """The blinding and the noise with which the record leads to the showing, or None."""
    check_showing(setup, key, context, pairs, showing)
    q, _ = setup
    person = record[0]
    ticket, spend, paper = showing
    blinding = explain_ticket(setup, key, record, ticket, spend)
    if blinding is None or person[1:] not in pairs:
        return None
    noise = explain_paper(
        q, paper_text(context, pairs, ticket, spend), choice_of(setup, ticket, pairs), paper,
        pairs.index(person[1:]), pair_values(q, person, blinding))
    return blinding, noise
