"""Systems of equations, and what shows that an answer for one is right."""

from oddkeep.errors import BadNumber, BadSize
from oddkeep.numbers import divided, is_short, is_whole, minus, times, total

MOST_VARIABLES = 8
MOST_ROWS = 12
ZERO = (0, 1)
ONE = (1, 1)


def check_equations(count, rows):
    """Raise the first error of the system that is due, or return None."""
    if not is_whole(count) or not 1 <= count <= MOST_VARIABLES:
        raise BadSize()
    if len(rows) > MOST_ROWS:
        raise BadSize()
    for factors, bound in rows:
        if len(factors) != count:
            raise BadSize()
        if not all([is_short(worth) for worth in factors + [bound]]):
            raise BadNumber()


def is_solution(count, rows, numbers):
    """Tell whether the numbers are a solution of the system."""
    if len(numbers) != count:
        return False
    return all([_row_value(factors, numbers) == bound for factors, bound in rows])


def is_direction(count, rows, numbers):
    """Tell whether the numbers are a direction of the system."""
    if len(numbers) != count or numbers == [ZERO] * count:
        return False
    return all([_row_value(factors, numbers) == ZERO for factors, _ in rows])


def refutes(count, rows, multipliers):
    """Tell whether the multipliers refute the system."""
    if len(multipliers) != len(rows):
        return False
    factors, bound = _added_up(count, rows, multipliers)
    return factors == [ZERO] * count and bound != ZERO


def solve_equations(count, rows):
    """Return a right answer for the system."""
    # Behind its bound each row tells of which of the given rows it is made up.
    done, pivots, rest = _reduced(count, [
        factors + [bound] + _unit(len(rows), at) for at, (factors, bound) in enumerate(rows)
    ])
    for row in rest:
        if row[count] != ZERO:
            return ("none", row[count + 1:])
    numbers = _spread(count, pivots, [row[count] for row in done])
    free = [column for column in range(count) if column not in pivots]
    if not free:
        return ("one", numbers)
    direction = _spread(count, pivots, [minus(ZERO, row[free[0]]) for row in done])
    direction[free[0]] = ONE
    return ("many", numbers, direction)


def judge_equations(count, rows, answer):
    """Tell whether the answer for the system is right."""
    match answer:
        case ("one", numbers):
            return is_solution(count, rows, numbers) and solve_equations(count, rows)[0] == "one"
        case ("many", numbers, direction):
            return is_solution(count, rows, numbers) and is_direction(count, rows, direction)
        case ("none", multipliers):
            return refutes(count, rows, multipliers)
    return False


def follows(count, rows, row):
    """Return multipliers by which the row follows from the system, or None."""
    factors, bound = row
    # The multipliers are the solutions of a system with a row for each variable, and one for the bound.
    turned = [([other[0][at] for other in rows], factors[at]) for at in range(count)]
    return solution_of(len(rows), turned + [([other[1] for other in rows], bound)])


def solution_of(count, rows):
    """Return a solution of the system, which may have any size, or None."""
    done, pivots, rest = _reduced(count, [factors + [bound] for factors, bound in rows])
    if any([row[count] != ZERO for row in rest]):
        return None
    return _spread(count, pivots, [row[count] for row in done])


def _row_value(factors, numbers):
    return total([times(factor, number) for factor, number in zip(factors, numbers)])


def _added_up(count, rows, multipliers):
    factors = [_row_value([row[0][at] for row in rows], multipliers) for at in range(count)]
    return factors, _row_value([row[1] for row in rows], multipliers)


def _unit(many, at):
    return [ONE if other == at else ZERO for other in range(many)]


def _spread(count, pivots, numbers):
    """Return a list with the numbers at the pivots, and 0 everywhere else."""
    spread = [ZERO] * count
    for column, number in zip(pivots, numbers):
        spread[column] = number
    return spread


def _reduced(count, rows):
    """Clear the first columns of the rows as far as this can be done.

    Return the rows that have a pivot, an only 1 in its column; the columns of
    the pivots; and the other rows, which are 0 in all of the first columns.
    """
    done = []
    pivots = []
    rest = list(rows)
    for column in range(count):
        filled = [at for at in range(len(rest)) if rest[at][column] != ZERO]
        if filled:
            pivot = _with_pivot(rest.pop(filled[0]), column)
            done = [_cleared(row, pivot, column) for row in done] + [pivot]
            rest = [_cleared(row, pivot, column) for row in rest]
            pivots.append(column)
    return done, pivots, rest


def _with_pivot(row, column):
    return [divided(number, row[column]) for number in row]


def _cleared(row, pivot, column):
    factor = row[column]
    if factor == ZERO:
        return row
    return [number if worth == ZERO else minus(number, times(factor, worth)) for number, worth in zip(row, pivot)]
