"""Choices of claims, and papers that say that one of the claims holds."""

from cloak.claims import are_values, check_claim, claim_numbers, holds, traces
from cloak.coins import challenge_of
from cloak.errors import BadForm, BadPaper, NotAllowed
from cloak.groups import is_exponent

MAX_CLAIMS = 25


def check_choice(q, choice):
    """Raise NotAllowed if the tuple is not a choice."""
    if len(choice) < 1 or len(choice) > MAX_CLAIMS:
        raise NotAllowed("a choice has from 1 to 25 claims")
    for claim in choice:
        check_claim(q, claim)


def choice_numbers(choice):
    """The list of the numbers of the choice."""
    numbers = [len(choice)]
    for claim in choice:
        numbers.extend(claim_numbers(claim))
    return numbers


def make_paper(q, text, choice, index, values, noise):
    """The paper that is made with values for the claim with the index."""
    check_maker(q, choice, index, values)
    if not has_form(q, choice, noise):
        raise NotAllowed("the noise does not have the form of a paper for the choice")
    if noise[index][0] != 0:
        raise NotAllowed("the noise has another exponent than 0 for the claim")
    c = (call_of(q, text, choice, noise) - sum_of_exponents(noise)) % q
    answers = moved_answers(q, noise[index][1], c, values)
    return with_pair(noise, index, (c, answers))


def check_paper(q, text, choice, paper):
    """Raise BadForm or BadPaper if the paper is not a right one."""
    if not has_form(q, choice, paper):
        raise BadForm("this does not have the form of a paper for the choice")
    if sum_of_exponents(paper) % q != call_of(q, text, choice, paper):
        raise BadPaper("the exponents of the paper do not make up its call")


def explain_paper(q, text, choice, paper, index, values):
    """The noise from which the values for the claim with the index make the paper."""
    check_paper(q, text, choice, paper)
    check_maker(q, choice, index, values)
    c, answers = paper[index]
    return with_pair(paper, index, (0, moved_answers(q, answers, -c, values)))


def check_maker(q, choice, index, values):
    """Raise NotAllowed if the claim with the index is not known to hold by the values."""
    if index < 0 or index >= len(choice):
        raise NotAllowed("there is no claim with this index")
    if not holds(q, choice[index], values):
        raise NotAllowed("the claim does not hold for the values")


def has_form(q, choice, paper):
    """True if the paper has the form of one for the choice, otherwise False."""
    return len(paper) == len(choice) and all(
        is_exponent(q, c) and are_values(q, claim, answers)
        for claim, (c, answers) in zip(choice, paper))


def call_of(q, text, choice, paper):
    """The call of a paper or of noise for a text."""
    numbers = choice_numbers(choice)
    for claim, (c, answers) in zip(choice, paper):
        numbers.extend(traces(q, claim, c, answers))
    return challenge_of(q, f"paper {text}", numbers)


def sum_of_exponents(paper):
    """The sum of the first numbers of all pairs."""
    return sum([c for c, _ in paper])


def moved_answers(q, answers, c, values):
    """The answers with c times the values added."""
    return tuple([(answer + c * value) % q for answer, value in zip(answers, values)])


def with_pair(paper, index, pair):
    """The paper with another pair at the index."""
    return (*paper[:index], pair, *paper[index + 1:])
