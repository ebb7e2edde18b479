"""Systems of linear equations over the exponents of an order, and all their solutions."""

from cloak.errors import Missing, NotAllowed
from cloak.groups import quotient

_MOST_UNKNOWNS = 40
_MOST_ROWS = 60


def check_system(unknowns, rows, right):
    """Raise NotAllowed if the numbers of a system are not allowed."""
    if unknowns < 1 or unknowns > _MOST_UNKNOWNS:
        raise NotAllowed("there are from 1 to 40 unknowns")
    if len(rows) > _MOST_ROWS:
        raise NotAllowed("there are at most 60 rows")
    if any(len(row) != unknowns for row in rows):
        raise NotAllowed("a row has one exponent for each unknown")
    if len(right) != len(rows):
        raise NotAllowed("there is one right side for each row")


def reduced(q, rows, unknowns):
    """The rows in reduced form, and the list of the bound unknowns.

    The reduced row i is the one with 1 at the bound unknown i, and all other
    reduced rows have 0 there. Columns behind the unknowns are carried along.
    """
    left = [[entry % q for entry in row] for row in rows]
    bound = []
    for unknown in range(unknowns):
        source = first_row_with(left, len(bound), unknown)
        if source is not None:
            left = cleared(q, swapped(left, source, len(bound)), len(bound), unknown)
            bound.append(unknown)
    return left, bound


def first_row_with(rows, start, column):
    """The index of the first row from `start` on without 0 in the column, or None."""
    for at in range(start, len(rows)):
        if rows[at][column] != 0:
            return at
    return None


def swapped(rows, first, second):
    """The rows with two of them in each other's place."""
    moved = list(rows)
    moved[first] = rows[second]
    moved[second] = rows[first]
    return moved


def cleared(q, rows, lead, column):
    """The rows with 1 in the column in the row `lead`, and 0 in all others."""
    factor = quotient(q, 1, rows[lead][column])
    leader = [factor * entry % q for entry in rows[lead]]
    return [leader if at == lead else less_multiple(q, row, row[column], leader)
            for at, row in enumerate(rows)]


def less_multiple(q, row, factor, other):
    """The row less a multiple of another row."""
    return [(entry - factor * taken) % q for entry, taken in zip(row, other)]


def rank(q, rows):
    """The number of bound unknowns of a list of rows."""
    if not rows:
        return 0
    _, bound = reduced(q, rows, len(rows[0]))
    return len(bound)


def solutions(q, unknowns, rows, right):
    """The first solution and the list of the steps."""
    check_system(unknowns, rows, right)
    table = [[*row, side] for row, side in zip(rows, right)]
    left, bound = reduced(q, table, unknowns)
    # Rows behind those of the bound unknowns say that 0 is their right side.
    if any(row[unknowns] != 0 for row in left[len(bound):]):
        raise Missing("there is no solution")
    first = [0] * unknowns
    for unknown, row in zip(bound, left):
        first[unknown] = row[unknowns]
    steps = [step_of(q, unknowns, left, bound, free)
             for free in range(unknowns) if free not in bound]
    return first, steps


def step_of(q, unknowns, left, bound, free):
    """The step of a free unknown, from the rows in reduced form."""
    step = [0] * unknowns
    step[free] = 1
    for unknown, row in zip(bound, left):
        step[unknown] = -row[free] % q
    return step


def count_solutions(q, unknowns, rows, right):
    """The number of solutions, 0 if there are none."""
    try:
        _, steps = solutions(q, unknowns, rows, right)
    except Missing:
        return 0
    count = 1
    for _ in steps:
        count = count * q
    return count
