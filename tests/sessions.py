"""Sessions, tickets and spends, written down from their rules once more.

What is called `hand_..` multiplies and tries, and calls nothing of the program.
"""

from helpers import hand_coin, multiplied, multiplied_all, squares

GREAT = 10 ** 999
STRANGE = (GREAT, -GREAT)


def hand_challenge(q, word, numbers):
    return 1 + hand_coin(0, q, " ".join([word] + [str(n) for n in numbers])) % (q - 1)


def hand_quotient(q, first, second):
    return [x for x in range(q) if (x * second - first) % q == 0][0]


def hand_mark(setup, person):
    q, (_, g0, g1, g2, g3) = setup
    number, age, zone = person
    return multiplied_all(q, (g0, g1, g2, g3), (1, number, age, zone))


def unusable_people(setup):
    """All persons with the mark 1."""
    q = setup[0]
    people = [(number, age, zone) for number in range(q) for age in range(5) for zone in range(5)]
    return [person for person in people if hand_mark(setup, person) == 1]


def usable_people(setup):
    """All persons with another mark than 1."""
    q, unusable = setup[0], unusable_people(setup)
    people = [(number, age, zone) for number in range(q) for age in range(5) for zone in range(5)]
    return [person for person in people if person not in unusable]


def hand_offer(setup, secret, person, w):
    q, bases = setup
    mark = hand_mark(setup, person)
    return multiplied(q, mark, secret), multiplied(q, bases[0], w), multiplied(q, mark, w)


def hand_five(setup, person, offer, blinding):
    """A, B, z1, a1, b1 of step 2."""
    q, bases = setup
    z, a, b = offer
    s, u, v, covers = blinding
    first = multiplied(q, hand_mark(setup, person), s)
    a1 = multiplied(q, a, u) * multiplied(q, bases[0], v) % (2 * q + 1)
    b1 = multiplied(q, multiplied(q, b, s), u) * multiplied(q, first, v) % (2 * q + 1)
    return first, multiplied_all(q, bases[1:], covers), multiplied(q, z, s), a1, b1


def hand_request(setup, person, offer, blinding):
    q = setup[0]
    c1 = hand_challenge(q, "ticket", hand_five(setup, person, offer, blinding))
    return hand_quotient(q, c1, blinding[1])


def hand_checks(setup, key, person, offer, c, r):
    """True if both checks of step 4 hold."""
    q, bases = setup
    z, a, b = offer
    mark = hand_mark(setup, person)
    return (multiplied(q, bases[0], r) == a * multiplied(q, key, c) % (2 * q + 1)
            and multiplied(q, mark, r) == b * multiplied(q, z, c) % (2 * q + 1))


def hand_ticket(setup, person, offer, blinding, r):
    _, u, v, _ = blinding
    return (*hand_five(setup, person, offer, blinding), (u * r + v) % setup[0])


def hand_is_ticket(setup, key, ticket):
    q, bases = setup
    first, _, z1, a1, b1, r1 = ticket
    if any(number not in squares(q) for number in ticket[:5]) or first == 1 or r1 not in range(q):
        return False
    c1 = hand_challenge(q, "ticket", ticket[:5])
    return (multiplied(q, bases[0], r1) == a1 * multiplied(q, key, c1) % (2 * q + 1)
            and multiplied(q, first, r1) == b1 * multiplied(q, z1, c1) % (2 * q + 1))


def hand_spend(setup, person, blinding, d):
    q = setup[0]
    number, age, zone = person
    s, _, _, (x0, x1, x2, x3) = blinding
    return d, ((x0 + d * s) % q, (x1 + d * s * number) % q, (x2 + d * s * age) % q,
               (x3 + d * s * zone) % q)


def hand_is_spend(setup, ticket, spend):
    q, bases = setup
    d, answers = spend
    first, second = ticket[:2]
    if any(number not in range(q) for number in (d, *answers)):
        return False
    if first not in squares(q) or second not in squares(q):
        return False
    return multiplied_all(q, bases[1:], answers) == multiplied(q, first, d) * second % (2 * q + 1)


def blindings_that_lead(setup, key, record, ticket, spend):
    """All blindings with which the record leads to the ticket and the spend, by trying them.

    Each answer of the spend depends on one of the x alone, so these are tried apart.
    """
    q = setup[0]
    person, offer, c, r = record
    d, answers = spend
    if person not in usable_people(setup) or any(n not in squares(q) for n in offer):
        return []
    if offer[0] == 1 or r not in range(q) or d not in range(q):
        return []
    found = []
    for s in range(1, q):
        if multiplied(q, hand_mark(setup, person), s) != ticket[0]:
            continue
        covers = [[x for x in range(q) if (x + d * s * part) % q == answer]
                  for answer, part in zip(answers, (1, *person))]
        for u in range(1, q):
            for v in range(q):
                found += [(s, u, v, (x0, x1, x2, x3)) for x0 in covers[0] for x1 in covers[1]
                          for x2 in covers[2] for x3 in covers[3]]
    return [blinding for blinding in found
            if hand_request(setup, person, offer, blinding) == c
            and hand_checks(setup, key, person, offer, c, r)
            and hand_ticket(setup, person, offer, blinding, r) == ticket]


def drawn(seed, n, word, least, end):
    """A number from `least` to `end` - 1."""
    return least + hand_coin(seed, n, word) % (end - least)


def drawn_blinding(q, seed, n):
    covers = tuple(drawn(seed, n, f"x{i}", 0, q) for i in range(4))
    return (drawn(seed, n, "s", 1, q), drawn(seed, n, "u", 1, q), drawn(seed, n, "v", 0, q), covers)


class Session:
    """An honest session, by hand."""

    def __init__(self, setup, secret, person, w, blinding):
        q, bases = setup
        self.setup = setup
        self.key = multiplied(q, bases[0], secret)
        self.person = person
        self.blinding = blinding
        self.offer = hand_offer(setup, secret, person, w)
        self.c = hand_request(setup, person, self.offer, blinding)
        self.r = (w + self.c * secret) % q
        self.ticket = hand_ticket(setup, person, self.offer, blinding, self.r)
        self.record = (person, self.offer, self.c, self.r)

    def spend(self, d):
        return hand_spend(self.setup, self.person, self.blinding, d)


def drawn_session(setup, secret, person, seed, n):
    """An honest session with drawn numbers."""
    q = setup[0]
    return Session(setup, secret, person, drawn(seed, n, "w", 0, q), drawn_blinding(q, seed, n))
