"""Placings: giving each use to one of some members, within the tickets of the members.

Choices are a list with the members for each use of a crowd, from which one is
to be found. A placing is a list with the member of each use, and with None for
the uses that have no place yet.
"""


def crowded_uses(crowd, choices):
    """Uses of one epoch that have more uses than tickets among their choices, or None.

    There are none just if all uses can be placed.
    """
    placing = [None] * len(choices)
    for use in range(len(choices)):
        wider, looked_at = with_place_for(crowd, choices, placing, use)
        if wider is None:
            return sorted(looked_at)
        placing = wider
    return None


def with_place_for(crowd, choices, placing, use):
    """The placing with a place for one more use, or None, and the uses that were looked at.

    Uses that have a place are moved on to other members where this makes room.
    If it does not, the members that were reached have no ticket left for
    others, and the uses that were looked at are one more than their tickets.
    """
    members, uses = crowd
    epoch = uses[use][0]
    waiting = [use]
    comes_from = {}
    at = 0
    while at < len(waiting):
        wanting = waiting[at]
        for member in choices[wanting]:
            if member not in comes_from:
                comes_from[member] = wanting
                given = uses_given(uses, placing, epoch, member)
                if len(given) < members[member][2][epoch]:
                    return moved(placing, comes_from, member), waiting
                waiting.extend(given)
        at += 1
    return None, waiting


def uses_given(uses, placing, epoch, member):
    """The list of the uses of the epoch that are placed with the member."""
    return [use for use, one in enumerate(placing) if one == member and uses[use][0] == epoch]


def moved(placing, comes_from, member):
    """The placing after a use comes to the member, another one to the place it left, and so on."""
    result = list(placing)
    # Only the use that had no place leaves none behind.
    while member is not None:
        use = comes_from[member]
        left = result[use]
        result[use] = member
        member = left
    return result
