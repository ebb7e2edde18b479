"""Crowds, and what the tests find out about them by trying all lists of members."""

from itertools import product as all_lists
from random import Random

ALL = tuple((age, zone) for age in range(5) for zone in range(5))

# The example of the document.
YOUNG = ((0, 0), (0, 1), (1, 0))
EXAMPLE = (((0, 0, (2, 0, 0)), (1, 0, (1, 0, 0)), (3, 3, (1, 1, 1))),
           ((0, YOUNG, None), (0, ((0, 0), (3, 3)), None)))


def hand_eligible(crowd, use, member):
    age, zone, _ = crowd[0][member]
    _, pairs, known = crowd[1][use]
    return (age, zone) in pairs and known in (None, member)


def hand_assignments(crowd):
    """All assignments, in their order, by trying all lists of eligible members."""
    members, uses = crowd
    choices = [[m for m in range(len(members)) if hand_eligible(crowd, u, m)] for u in range(len(uses))]
    return [list(row) for row in all_lists(*choices)
            if all(sum(row[u] == m and uses[u][0] == epoch for u in range(len(uses))) <= members[m][2][epoch]
                   for m in range(len(members)) for epoch in range(3))]


def hand_ways(crowd, assignment):
    """The number of ways of an assignment."""
    members, uses = crowd
    ways = 1
    for m in range(len(members)):
        for epoch in range(3):
            many = sum(assignment[u] == m and uses[u][0] == epoch for u in range(len(uses)))
            for k in range(many):
                ways *= members[m][2][epoch] - k
    return ways


def hand_possible(crowd, use):
    return sorted({row[use] for row in hand_assignments(crowd)})


def drawn_use(draw, members, epochs):
    """A use of one of the first epochs, by one of so many members."""
    pairs = tuple((age, zone) for age in range(2) for zone in range(2) if draw.randrange(4))
    known = draw.randrange(12)
    return draw.randrange(epochs), pairs, known if known < members else None


def drawn_crowd(seed, epochs, most_members=4, most_uses=5, most_tickets=2):
    """A small crowd whose uses are of the first epochs; every tenth one may be without members."""
    draw = Random(seed)
    many = draw.randrange(0 if seed % 10 == 0 else 1, most_members + 1)
    members = tuple((draw.randrange(2), draw.randrange(2), tuple(draw.randrange(most_tickets + 1) for _ in range(3)))
                    for _ in range(many))
    return members, tuple(drawn_use(draw, many, epochs) for _ in range(draw.randrange(most_uses + 1)))


def drawn_crowds(many, *limits):
    """Crowds with uses of one, two and three epochs."""
    return [drawn_crowd(seed, 1 + seed % 3, *limits) for seed in range(many)]


def full_crowd(tickets, pairs=ALL, epoch=0):
    """10 members and 8 uses of one epoch."""
    members = tuple((n % 5, n // 5, (tickets,) * 3) for n in range(10))
    return members, ((epoch, pairs, None),) * 8
