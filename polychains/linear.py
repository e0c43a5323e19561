"""Rows, spaces by their reduced tables, and matrices modulo a small prime (points 1.1 to 1.3)."""

from polychains.errors import Refused
from polychains.whole import inverse, is_integer


def is_row(value, p, n):
    """Tells whether a value is a tuple of `n` integers from 0 to p - 1."""
    if not isinstance(value, tuple) or len(value) != n:
        return False
    return all([is_integer(item) and 0 <= item < p for item in value])


def add(v, w, p):
    """Returns the sum of two rows."""
    return tuple([(x + y) % p for x, y in zip(v, w)])


def scaled(v, a, p):
    """Returns the multiple of a row by an integer."""
    return tuple([a * x % p for x in v])


def dot(v, w, p):
    """Returns the product of two rows."""
    return sum([x * y for x, y in zip(v, w)]) % p


def combine(rows, weights, width, p):
    """Returns the sum of the rows times the weights."""
    total = _zeros(width)
    for row, weight in zip(rows, weights):
        total = add(total, scaled(row, weight, p), p)
    return total


def _zeros(width):
    return (0,) * width


def _unit(n, at):
    return tuple([1 if place == at else 0 for place in range(n)])


def _cleared(row, lead, at, p):
    """Returns the row less the multiple of `lead`, which has 1 at the place, that leaves 0 there."""
    if row[at] == 0:
        return row
    return add(row, scaled(lead, -row[at], p), p)


def _lead_at(rows, at, p):
    """Returns a multiple of the first row with an item at the place, with 1 there, or None."""
    for row in rows:
        if row[at] != 0:
            return scaled(row, inverse(row[at], p), p)
    return None


def reduced(rows, width, p):
    """Returns the reduced table of the space that the rows span, and its pivots."""
    left = list(rows)
    table = []
    pivots = []
    for at in range(width):
        lead = _lead_at(left, at, p)
        if lead is not None:
            left = [_cleared(row, lead, at, p) for row in left]
            table = [_cleared(row, lead, at, p) for row in table]
            table.append(lead)
            pivots.append(at)
    return tuple(table), tuple(pivots)


def span(rows, width, p):
    """Returns the reduced table of the space that the rows span."""
    table, _ = reduced(rows, width, p)
    return table


def kernel(rows, width, p):
    """Returns the space of the rows whose product with each of the rows is 0."""
    table, pivots = reduced(rows, width, p)
    found = []
    for free in range(width):
        if free not in pivots:
            solution = list(_unit(width, free))
            for row, pivot in zip(table, pivots):
                solution[pivot] = -row[free] % p
            found.append(tuple(solution))
    return span(found, width, p)


def _columns(rows, width):
    return [tuple([row[at] for row in rows]) for at in range(width)]


def relations(rows, width, p):
    """Returns the space of the rows of multiples for which the sum of the rows is 0."""
    return kernel(_columns(rows, width), len(rows), p)


def unsolved(rows, width, right, p):
    """Returns multiples for which the rows add up to 0 and the right sides to 1, or None."""
    for weights in relations(rows, width, p):
        value = dot(weights, right, p)
        if value != 0:
            return scaled(weights, inverse(value, p), p)
    return None


def solve(rows, width, right, p):
    """Returns the row with the told products, and 0 at the free places of the span, or None."""
    wide = [(*row, value % p) for row, value in zip(rows, right)]
    table, pivots = reduced(wide, width + 1, p)
    if width in pivots:
        return None
    solution = list(_zeros(width))
    for row, pivot in zip(table, pivots):
        solution[pivot] = row[width]
    return tuple(solution)


def coordinates(rows, v, p):
    """Returns the multiples of independent rows whose sum is the row `v`, or None."""
    return solve(_columns(rows, len(v)), len(rows), v, p)


def rest(space, v, p):
    """Returns the row with 0 at the pivots that is `v` less some row of the space."""
    for row in space:
        # The first item of a row of a reduced table that is not 0 is 1.
        v = _cleared(v, row, row.index(1), p)
    return v


def space_holds(space, v, p):
    """Tells whether a row is in the space."""
    return rest(space, v, p) == _zeros(len(v))


def sum_of(a, b, width, p):
    """Returns the space of all sums of a row of the one space and a row of the other one."""
    return span([*a, *b], width, p)


def common_part(a, b, width, p):
    """Returns the space of the rows that are in both spaces."""
    many = len(a)
    # Where a sum over both tables is 0, its part over the one is a row of the other, too.
    pairs = relations([*a, *b], width, p)
    return span([combine(a, weights[:many], width, p) for weights in pairs], width, p)


def all_rows(space, width, p):
    """Goes through the rows of the space, ascending."""
    row = _zeros(width)
    yield row
    at = len(space) - 1
    while at >= 0:
        row = add(row, space[at], p)
        if row[space[at].index(1)] == 0:
            # All multiples of this row are through: the one before it takes its next step.
            at -= 1
        else:
            yield row
            at = len(space) - 1


def identity(n):
    """Returns the unit matrix of the size `n`."""
    return tuple([_unit(n, at) for at in range(n)])


def is_matrix(value, p, n):
    """Tells whether a value is a tuple of `n` rows of the length `n`."""
    if not isinstance(value, tuple) or len(value) != n:
        return False
    return all([is_row(row, p, n) for row in value])


def moved(v, matrix, p):
    """Returns the product of a row and a matrix."""
    return combine(matrix, v, len(v), p)


def times(one, two, p):
    """Returns the product of two matrices."""
    return tuple([moved(row, two, p) for row in one])


def matrix_power(matrix, k, p):
    """Returns the power `k`, from 0 on, of a matrix."""
    result = identity(len(matrix))
    while k > 0:
        if k & 1:
            result = times(result, matrix, p)
        matrix = times(matrix, matrix, p)
        k = k >> 1
    return result


def is_invertible(matrix, p):
    """Tells whether a matrix has an inverse."""
    return len(span(matrix, len(matrix), p)) == len(matrix)


def matrix_inverse(matrix, p):
    """Returns the inverse of a matrix."""
    if not is_invertible(matrix, p):
        raise Refused("singular")
    n = len(matrix)
    wide = [(*row, *unit) for row, unit in zip(matrix, identity(n))]
    # The left half of the reduced table is the unit matrix, as the rows span all rows.
    return tuple([row[n:] for row in span(wide, 2 * n, p)])
