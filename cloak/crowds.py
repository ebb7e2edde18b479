"""Crowds: who could have made which use, as far as tickets and questions tell."""

from cloak.errors import Missing, NotAllowed
from cloak.forms import is_rising
from cloak.pairs import check_pair, check_set
from cloak.placings import crowded_uses

MAX_MEMBERS = 10
MAX_USES = 8
MAX_TICKETS = 6
EPOCHS = 3


def check_crowd(crowd):
    """Raise NotAllowed if the argument is not a crowd."""
    members, uses = crowd
    if len(members) > MAX_MEMBERS:
        raise NotAllowed("a crowd has at most 10 members")
    for member in members:
        check_member(member)
    if len(uses) > MAX_USES:
        raise NotAllowed("a crowd has at most 8 uses")
    for use in uses:
        check_use(members, use)


def check_member(member):
    """Raise NotAllowed if this is not a member."""
    age, zone, tickets = member
    check_pair((age, zone))
    if len(tickets) != EPOCHS:
        raise NotAllowed("a member has a number of tickets for each epoch")
    if any(number < 0 or number > MAX_TICKETS for number in tickets):
        raise NotAllowed("a member has from 0 to 6 tickets of an epoch")


def check_use(members, use):
    """Raise NotAllowed if this is not a use by one of the members."""
    epoch, pairs, known = use
    if epoch < 0 or epoch >= EPOCHS:
        raise NotAllowed("an epoch is from 0 to 2")
    if any(len(pair) != 2 for pair in pairs):
        raise NotAllowed("a pair is an age and a zone")
    check_set(pairs)
    if known is not None and not is_index(known, members):
        raise NotAllowed("the member who is known to have made a use is there")


def is_index(index, row):
    """True if the integer is an index of the list or tuple, otherwise False."""
    return 0 <= index < len(row)


def check_place(crowd, use, member):
    """Raise Missing if there is no such use or member."""
    members, uses = crowd
    if not is_index(use, uses) or not is_index(member, members):
        raise Missing("there is no such use or member")


def is_eligible(crowd, use, member):
    """True if the member is eligible for the use, otherwise False."""
    check_place(crowd, use, member)
    members, uses = crowd
    _, pairs, known = uses[use]
    return members[member][:2] in pairs and (known is None or known == member)


def first_assignment(crowd, fixed):
    """The first assignment with the members that are fixed, or None."""
    members, uses = crowd
    if len(fixed) != len(uses):
        raise NotAllowed("there is a member or None for each use")
    if any(member is not None and not is_index(member, members) for member in fixed):
        raise NotAllowed("a member that is fixed is there")
    choices = choices_with(crowd, fixed)
    for use in range(len(uses)):
        choices = first_narrowed(crowd, choices, use)
        if choices is None:
            return None
    return [chosen[0] for chosen in choices]


def choices_with(crowd, fixed):
    """For each use the list of the eligible members, without all others where one is fixed."""
    members, _ = crowd
    return [[member for member in range(len(members))
             if wanted in (None, member) and is_eligible(crowd, use, member)]
            for use, wanted in enumerate(fixed)]


def first_narrowed(crowd, choices, use):
    """The choices with only the first member left for the use that leaves places for all, or None."""
    for member in choices[use]:
        narrowed = [*choices[:use], [member], *choices[use + 1:]]
        if crowded_uses(crowd, narrowed) is None:
            return narrowed
    return None


def fixed_at(crowd, use, member):
    """What is fixed where just one use is given to a member."""
    _, uses = crowd
    return [member if at == use else None for at in range(len(uses))]


def possible(crowd, use):
    """The list of the members that are possible for the use."""
    members, uses = crowd
    if not is_index(use, uses):
        raise Missing("there is no such use")
    return [member for member in range(len(members)) if blocking(crowd, use, member) is None]


def witness(crowd, use, member):
    """The first assignment that gives the use to the member, or None."""
    check_place(crowd, use, member)
    return first_assignment(crowd, fixed_at(crowd, use, member))


def blocking(crowd, use, member):
    """A list of uses that blocks the member for the use, or None."""
    check_place(crowd, use, member)
    return crowded_uses(crowd, choices_with(crowd, fixed_at(crowd, use, member)))


def is_blocking(crowd, use, member, uses):
    """True if the list of uses blocks the member for the use, otherwise False."""
    check_place(crowd, use, member)
    if not are_uses_of_one_epoch(crowd, uses):
        return False
    members, rows = crowd
    epoch = rows[uses[0]][0]
    choices = choices_with(crowd, fixed_at(crowd, use, member))
    admitted = [one for one in range(len(members)) if any(one in choices[at] for at in uses)]
    return len(uses) > sum([members[one][2][epoch] for one in admitted])


def are_uses_of_one_epoch(crowd, uses):
    """True if the list has at least one index, ascending, all of uses of one epoch."""
    _, rows = crowd
    if not uses or not is_rising(uses) or not all(is_index(use, rows) for use in uses):
        return False
    return all(rows[use][0] == rows[uses[0]][0] for use in uses)
