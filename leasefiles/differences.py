"""What parts two lots of numbers, found from few of the values of each."""

from leasefiles.polynomials import common_factor, divided, inverse, powers, product_at, value_at


def pivot_row(rows, top, column):
    """The index of the first row from top on that has something in a column, or None."""
    for k in range(top, len(rows)):
        if rows[k][column] != 0:
            return k
    return None


def cleared(prime, rows, top, column):
    """The rows with 1 in a column of the row at top, and nought in this column of all others."""
    factor = inverse(prime, rows[top][column])
    pivot = [item * factor % prime for item in rows[top]]
    made = []
    for k, row in enumerate(rows):
        times = row[column]
        made.append(pivot if k == top else [(item - times * own) % prime for item, own in zip(row, pivot)])
    return made


def solution(prime, rows, many):
    """A solution of equations in so many unknowns, each a row of factors and what they add up to; None if none."""
    top = 0
    columns = []
    for column in range(many):
        found = pivot_row(rows, top, column)
        if found is not None:
            rows = rows[:top] + [rows[found]] + rows[top:found] + rows[found + 1:]
            rows = cleared(prime, rows, top, column)
            columns.append(column)
            top += 1
    if any([row[many] != 0 for row in rows[top:]]):
        return None
    # Unknowns that are left free are taken as nought.
    solved = [0] * many
    for k, column in enumerate(columns):
        solved[column] = rows[k][many]
    return solved


def equation(prime, place, value, told, many_above, many_below):
    """The equation of one place in the coefficients of f and g but the leading ones, which are 1."""
    above = [value * power % prime for power in powers(prime, place, many_above + 1)]
    below = [told * power % prime for power in powers(prime, place, many_below + 1)]
    return above[:-1] + [-item % prime for item in below[:-1]] + [(below[-1] - above[-1]) % prime]


def quotient_pair(prime, values, places, told, degrees):
    """Polynomials f and g of these degrees that part the values from those told, freed of what both share."""
    many = degrees[0] + degrees[1]
    rows = [equation(prime, place, value, other, degrees[0], degrees[1])
            for place, value, other in zip(places, values, told)]
    solved = solution(prime, rows, many)
    if solved is None:
        return None
    above = tuple(solved[:degrees[0]]) + (1,)
    below = tuple(solved[degrees[0]:]) + (1,)
    shared = common_factor(prime, above, below)
    return divided(prime, above, shared)[0], divided(prime, below, shared)[0]


def parted(prime, own, many, places, told, most):
    """The pair (f, g) of point 16 that parts own from a lot of so many numbers, or None."""
    gap = many - len(own)
    if abs(gap) > most:
        return None
    # Whatever pair of smaller degrees there is, it solves these equations with a factor that both share.
    degree = (most + gap) // 2
    values = [product_at(prime, own, place) for place in places]
    pair = quotient_pair(prime, values, places, told, (degree, degree - gap))
    if pair is None:
        return None
    above, below = pair
    for place, value, other in zip(places, values, told):
        # Where the shared factor is nought the equations bound nothing.
        if (value_at(prime, above, place) * value - value_at(prime, below, place) * other) % prime != 0:
            return None
    roots = [number for number in own if value_at(prime, below, number) == 0]
    return pair if len(roots) == len(below) - 1 else None
