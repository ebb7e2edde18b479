"""Stages and showings, written down from their rules once more."""

from helpers import hand_call, hand_coin, hand_paper, multiplied_all
from sessions import drawn, hand_is_spend, hand_is_ticket


def hand_numbers(context, pairs):
    return [context[1], len(pairs)] + [5 * age + zone for age, zone in pairs]


def hand_stage(q, context, pairs):
    """The challenge of the stage, by the rule."""
    text = "show " + context[0] + "".join(f" {n}" for n in hand_numbers(context, pairs))
    return 1 + hand_coin(0, q, text) % (q - 1)


def hand_choice(setup, first, pairs):
    q, (_, g0, g1, g2, g3) = setup
    return tuple((2, ((first, (multiplied_all(q, (g0, g2, g3), (1, age, zone)), g1)),))
                 for age, zone in pairs)


def hand_text(context, pairs, ticket, spend):
    numbers = [*hand_numbers(context, pairs), *ticket, spend[0], *spend[1]]
    return "paper " + context[0] + "".join(f" {n}" for n in numbers)


def hand_showing(session, context, pairs, noise):
    """The showing of the person of a session, by the rule."""
    q = session.setup[0]
    number, age, zone = session.person
    s = session.blinding[0]
    spend = session.spend(hand_stage(q, context, pairs))
    paper = hand_paper(q, hand_text(context, pairs, session.ticket, spend),
                       hand_choice(session.setup, session.ticket[0], pairs),
                       pairs.index((age, zone)), (s, s * number % q), noise)
    return session.ticket, spend, paper


def hand_is_right(setup, key, context, pairs, showing):
    """Whether a showing with numbers in their ranges is right, by the rule."""
    q = setup[0]
    ticket, spend, paper = showing
    if not hand_is_ticket(setup, key, ticket) or not hand_is_spend(setup, ticket, spend):
        return False
    call = hand_call(q, hand_text(context, pairs, ticket, spend),
                     hand_choice(setup, ticket[0], pairs), paper)
    return spend[0] == hand_stage(q, context, pairs) and sum(c for c, _ in paper) % q == call


def drawn_noise(q, pairs, own, seed):
    """A noise for a set; `own` is the index of the person's pair."""
    return tuple((0 if i == own else drawn(seed, i, "c", 0, q),
                  (drawn(seed, i, "a", 0, q), drawn(seed, i, "b", 0, q))) for i in range(len(pairs)))


def noise_for(session, pairs, seed):
    return drawn_noise(session.setup[0], pairs, pairs.index(session.person[1:]), seed)
