"""Power-conjugate presentations and their texts (points 2.1 and 2.2)."""

from polychains.errors import Malformed, NoText, Refused
from polychains.whole import is_integer, is_small_prime

MOST_GENERATORS = 10
MOST_ORDER = 1024


def _is_row(value, primes):
    """Tells whether a value is a row: a tuple with an item below each of the primes."""
    if not isinstance(value, tuple) or len(value) != len(primes):
        return False
    return all([is_integer(item) and 0 <= item < p for item, p in zip(value, primes)])


def _is_right_side(value, primes, i):
    """Tells whether a value is a row with 0 up to the place `i`."""
    return _is_row(value, primes) and not any(value[:i + 1])


def _are_right_sides(value, many, primes, i):
    """Tells whether a value is a tuple of so many rows with 0 up to the place `i`."""
    if not isinstance(value, tuple) or len(value) != many:
        return False
    return all([_is_right_side(row, primes, i) for row in value])


def _are_primes(value):
    return isinstance(value, tuple) and all([is_small_prime(p) for p in value])


def _are_powers(value, primes):
    if not isinstance(value, tuple) or len(value) != len(primes):
        return False
    return all([_is_right_side(row, primes, i) for i, row in enumerate(value)])


def _are_conjugates(value, primes):
    n = len(primes)
    if not isinstance(value, tuple) or len(value) != n:
        return False
    return all([_are_right_sides(rows, n - i - 1, primes, i) for i, rows in enumerate(value)])


def _order_of(primes):
    order = 1
    for p in primes:
        order = order * p
    return order


def _row_text(row):
    return " ".join([str(item) for item in row])


class Presentation:
    """A power-conjugate presentation, consistent or not."""

    def __init__(self, primes, powers, conjugates):
        if not _are_primes(primes):
            raise Malformed("the primes are no tuple of primes from 2 to 31")
        if not _are_powers(powers, primes):
            raise Malformed("the powers are no tuple of right sides")
        if not _are_conjugates(conjugates, primes):
            raise Malformed("the conjugates are no tuple of tuples of right sides")
        if len(primes) > MOST_GENERATORS or _order_of(primes) > MOST_ORDER:
            raise Refused("large")
        self.n = len(primes)
        self.primes = primes
        self.powers = powers
        self.conjugates = conjugates
        self.order = _order_of(primes)

    def __eq__(self, other):
        return (isinstance(other, Presentation) and self.primes == other.primes
                and self.powers == other.powers and self.conjugates == other.conjugates)

    def __str__(self):
        return ":".join([_row_text(self.primes),
                         ";".join([f" {_row_text(row)}" for row in _right_sides(self)])])

    def is_row(self, value):
        """Tells whether a value is a row of the presentation."""
        return _is_row(value, self.primes)

    def conjugate_row(self, i, j):
        """Returns the row of `g_i^-1 g_j g_i`, for i < j."""
        return self.conjugates[i][j - i - 1]

    def letters(self, row):
        """Returns the normal word of a row; the letter `k` stands for `g_(k-1)`."""
        return tuple([at + 1 for at, item in enumerate(row) for _ in range(item)])


def _right_sides(presentation):
    """Returns the right sides in the order of the text."""
    found = []
    for power, rows in zip(presentation.powers, presentation.conjugates):
        found.append(power)
        found.extend(rows)
    return found


def _read_number(token):
    # All numbers of a text are below 100, and Python refuses to read very long ones.
    if len(token) > 2 or not token.isascii() or not token.isdigit():
        raise NoText(0)
    return int(token)


def _read_row(text):
    return tuple([_read_number(token) for token in text.split()])


def _from_right_sides(primes, rows):
    """Returns the presentation with these right sides, in the order of the text."""
    powers = []
    conjugates = []
    at = 0
    for many in range(len(primes), 0, -1):
        powers.append(rows[at])
        conjugates.append(tuple(rows[at + 1:at + many]))
        at += many
    return Presentation(primes, tuple(powers), tuple(conjugates))


def read_presentation(text):
    """Returns the presentation with this text."""
    if not isinstance(text, str):
        raise NoText(0)
    before, _, behind = text.partition(":")
    primes = _read_row(before)
    rows = [_read_row(part) for part in behind.split(";")] if primes else []
    if 2 * len(rows) != len(primes) * (len(primes) + 1):
        raise NoText(0)
    try:
        found = _from_right_sides(primes, rows)
    except (Malformed, Refused):
        raise NoText(0) from None
    # Each presentation has one text, so other spaces, zeros and signs show here.
    if str(found) != text:
        raise NoText(0)
    return found
