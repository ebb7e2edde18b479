"""Ways: counting the assignments of a crowd, and what a further use would tell."""

from itertools import combinations
from math import perm

from cloak.crowds import EPOCHS, MAX_USES, check_use, is_eligible, is_index, possible
from cloak.errors import Missing, NotAllowed


def count_assignments(crowd):
    """The number of assignments."""
    return counted(crowd, one_for_all)


def count_ways(crowd):
    """The number of ways of all assignments together."""
    return counted(crowd, ways_to_choose)


def one_for_all(tickets, many):
    """1, whichever tickets a member chooses for so many uses."""
    return 1


def ways_to_choose(tickets, many):
    """In how many ways a member chooses tickets for so many uses."""
    return perm(tickets, many)


def counted(crowd, weigh):
    """The sum, over all assignments, of the products of what the members weigh in each epoch."""
    total = 1
    for epoch in range(EPOCHS):
        total = total * counted_in_epoch(crowd, epoch, weigh)
    return total


def counted_in_epoch(crowd, epoch, weigh):
    """The same sum for the uses of one epoch."""
    members, uses = crowd
    those = [use for use in range(len(uses)) if uses[use][0] == epoch]
    # Each use is a bit: what uses are given out is told by the sum of theirs.
    sums = {0: 1}
    for member in range(len(members)):
        bits = [1 << at for at, use in enumerate(those) if is_eligible(crowd, use, member)]
        sums = with_member(sums, bits, members[member][2][epoch], weigh)
    return sums.get((1 << len(those)) - 1, 0)


def with_member(sums, bits, tickets, weigh):
    """The sums by the uses that are given out, after one more member got some of its uses."""
    result = {}
    for given, number in sums.items():
        free = [bit for bit in bits if given & bit == 0]
        for many in range(min(tickets, len(free)) + 1):
            for chosen in combinations(free, many):
                now = given + sum(chosen)
                result[now] = result.get(now, 0) + number * weigh(tickets, many)
    return result


def shares(crowd, use):
    """For each member, the number of ways of all assignments that give the use to it."""
    members, uses = crowd
    if not is_index(use, uses):
        raise Missing("there is no such use")
    return [share_of(crowd, use, member) for member in range(len(members))]


def share_of(crowd, use, member):
    """The number of ways of all assignments that give the use to the member."""
    if not is_eligible(crowd, use, member):
        return 0
    members, uses = crowd
    epoch, pairs, _ = uses[use]
    return count_ways((members, (*uses[:use], (epoch, pairs, member), *uses[use + 1:])))


def check_further(crowd, own, further):
    """Raise NotAllowed if the further uses, or the indexes of own uses, are not allowed."""
    members, uses = crowd
    if len(uses) >= MAX_USES:
        raise NotAllowed("a crowd has at most 8 uses")
    for use in further:
        check_use(members, use)
    if not all(is_index(index, uses) for index in own):
        raise NotAllowed("an own use is one of the crowd")


def with_further(crowd, further):
    """The crowd with the further use behind all others."""
    members, uses = crowd
    return members, (*uses, further)


def told(crowd, further):
    """The list of the members that are possible for a further use."""
    check_further(crowd, [], [further])
    return possible(with_further(crowd, further), len(crowd[1]))


def keeps(crowd, own, further, wishes):
    """True if the further use keeps the wishes of the holder, otherwise False."""
    check_further(crowd, own, [further])
    return are_kept(crowd, own, further, wishes)


def are_kept(crowd, own, further, wishes):
    """True if the wishes are kept, for a further use that is allowed, otherwise False."""
    whole = with_further(crowd, further)
    _, uses = whole
    concerned = [use for use in [*own, len(uses) - 1] if uses[use][0] == further[0]]
    return all(is_kept(whole, use, need_of(wishes, uses[use])) for use in concerned)


def is_kept(crowd, use, need):
    """True if as many members as needed are possible for the use, otherwise False."""
    return need <= 0 or len(possible(crowd, use)) >= need


def need_of(wishes, use):
    """The greatest number of members that a wish wants for the use."""
    return max([least for pairs, least in wishes if pairs is None or pairs == use[1]], default=0)


def first_reason(crowd, own, further, wishes):
    """The first list of uses, of the shortest, with which alone the wishes are not kept."""
    check_further(crowd, own, [further])
    _, uses = crowd
    those = [use for use in range(len(uses)) if uses[use][0] == further[0]]
    for many in range(len(those) + 1):
        for chosen in combinations(those, many):
            if is_reason(crowd, own, further, wishes, chosen):
                return list(chosen)
    raise Missing("no uses of the epoch are a reason")


def is_reason(crowd, own, further, wishes, chosen):
    """True if the wishes are not kept in the crowd that has just the chosen uses."""
    members, uses = crowd
    alone = members, tuple([uses[use] for use in chosen])
    own_ones = [at for at, use in enumerate(chosen) if use in own]
    return not are_kept(alone, own_ones, further, wishes)


def best_option(crowd, own, options, wishes):
    """The index of the first option, of the cheapest, that keeps the wishes."""
    check_further(crowd, own, [use for _, use in options])
    for _, at in sorted([(cost, at) for at, (cost, _) in enumerate(options)]):
        if are_kept(crowd, own, options[at][1], wishes):
            return at
    raise Missing("no option keeps the wishes")
