"""Juries: a secret is dealt to seats, and opened by jurors with enough of them."""

from cloak.commitments import blind_of, commit
from cloak.errors import BadForm, BadPaper, Missing, NotAllowed, Used
from cloak.groups import check_exponent, is_exponent, product_of_powers, raised
from cloak.sharing import MAX_POINTS, check_polynomial, leading_through, secret_of, value_at

MAX_JURORS = 6
MAX_WEIGHT = 5


def check_jury(jury):
    """Raise NotAllowed if the argument is not a jury."""
    weights, quorum = jury
    if len(weights) < 1 or len(weights) > MAX_JURORS:
        raise NotAllowed("a jury has from 1 to 6 jurors")
    if any(weight < 0 or weight > MAX_WEIGHT for weight in weights):
        raise NotAllowed("the weight of a juror is from 0 to 5")
    if sum(weights) < 1 or sum(weights) > MAX_POINTS:
        raise NotAllowed("a jury has from 1 to 10 seats")
    if quorum < 1 or quorum > sum(weights):
        raise NotAllowed("a quorum is from 1 to the number of seats")


def seats_of(jury, juror):
    """The list of the seats of a juror, ascending."""
    weights, _ = jury
    if juror < 0 or juror >= len(weights):
        raise Missing("there is no such juror")
    before = sum(weights[:juror])
    return list(range(before + 1, before + weights[juror] + 1))


def deal(setup, jury, polynomial, blinds):
    """The commitments and the seat papers of a dealing."""
    q, _ = setup
    weights, quorum = jury
    for coefficients in (polynomial, blinds):
        check_polynomial(q, coefficients)
        if len(coefficients) != quorum:
            raise NotAllowed("a dealing has as many coefficients as the quorum")
    commitments = [commit(setup, value, blind) for value, blind in zip(polynomial, blinds)]
    papers = [(x, value_at(q, polynomial, x), value_at(q, blinds, x))
              for x in range(1, sum(weights) + 1)]
    return commitments, papers


def fits(setup, commitments, paper):
    """True if the seat paper fits the commitments, otherwise False."""
    q, bases = setup
    x, value, blind = paper
    powers = [raised(q, x, degree) for degree in range(len(commitments))]
    return (product_of_powers(q, bases[:2], (value, blind))
            == product_of_powers(q, commitments, powers))


def open_secret(setup, jury, commitments, votes):
    """The secret that the votes open together."""
    q, _ = setup
    _, quorum = jury
    if len(commitments) != quorum:
        raise NotAllowed("there are as many commitments as the quorum")
    for at in range(len(votes)):
        check_vote(setup, jury, commitments, votes, at)
    papers = sorted([paper for _, those in votes for paper in those])
    if len(papers) < quorum:
        raise Missing("the votes have fewer seats than the quorum")
    return secret_of(q, [(x, value) for x, value, _ in papers[:quorum]])


def check_vote(setup, jury, commitments, votes, at):
    """Raise an error if the vote at an index is not right behind those before it."""
    q, _ = setup
    juror, papers = votes[at]
    seats = seats_of(jury, juror)
    if juror in [other for other, _ in votes[:at]]:
        raise Used("a vote before is of the same juror")
    if [x for x, _, _ in papers] != seats:
        raise BadForm("a vote has papers of the seats of its juror, in ascending order")
    if not all(is_exponent(q, value) and is_exponent(q, blind) for _, value, blind in papers):
        raise BadForm("a number of a seat paper is not an exponent")
    check_fits(setup, commitments, papers)


def check_fits(setup, commitments, papers):
    """Raise BadPaper if one of the seat papers does not fit."""
    if not all(fits(setup, commitments, paper) for paper in papers):
        raise BadPaper("a seat paper does not fit the commitments")


def explain_dealing(setup, commitments, papers, secret):
    """The polynomial and the blinds that have this secret, the commitments and the papers."""
    q, _ = setup
    if len(papers) != len(commitments) - 1:
        raise NotAllowed("there is one paper fewer than commitments")
    if len({x for x, _, _ in papers}) != len(papers):
        raise NotAllowed("the papers are of different seats")
    check_exponent(q, secret)
    check_fits(setup, commitments, papers)
    # The commitment of degree 0 tells the blind of the secret, and this one all other blinds.
    blind = blind_of(setup, commitments[0], secret)
    return (leading_through(q, [(0, secret), *[(x, value) for x, value, _ in papers]]),
            leading_through(q, [(0, blind), *[(x, other) for x, _, other in papers]]))
