"""Groups of consistent presentations (points 3.1 to 3.3)."""

from polychains.collect import Collector, is_consistent
from polychains.errors import Malformed, Refused
from polychains.whole import is_integer


class Group:
    """The group of a consistent presentation; its elements are the rows."""

    def __init__(self, presentation):
        if not is_consistent(presentation):
            raise Refused("consistent")
        self.presentation = presentation
        self.n = presentation.n
        self.primes = presentation.primes
        self.order = presentation.order
        self._collector = Collector(presentation)

    def __eq__(self, other):
        return isinstance(other, Group) and self.presentation == other.presentation

    def is_element(self, value):
        """Tells whether a value is an element."""
        return self.presentation.is_row(value)

    def identity(self):
        """Returns the element 1."""
        return (0,) * self.n

    def generator(self, i):
        """Returns the generator `g_i`."""
        return tuple([1 if at == i else 0 for at in range(self.n)])

    def all_elements(self):
        """Goes through all elements, ascending."""
        row = self.identity()
        yield row
        at = self.n - 1
        while at >= 0:
            if row[at] + 1 < self.primes[at]:
                row = row[:at] + (row[at] + 1,) + (0,) * (self.n - at - 1)
                yield row
                at = self.n - 1
            else:
                at -= 1

    def multiply(self, x, y):
        """Returns `x y`."""
        return self._collector.behind(x, self.presentation.letters(y))

    def divided(self, x, y):
        """Returns `x^-1 y`, the element `z` with `x z = y`."""
        found = []
        for i in range(self.n):
            # So many letters bring the item at this place to that of `y`; those before it stay.
            many = (y[i] - x[i]) % self.primes[i]
            x = self._collector.behind(x, (i + 1,) * many)
            found.append(many)
        return tuple(found)

    def inverse(self, x):
        """Returns the inverse of an element."""
        return self.divided(x, self.identity())

    def power(self, x, k):
        """Returns `x^k`, for every integer `k`."""
        # The order of each element divides that of the group.
        k = k % self.order
        result = self.identity()
        while k > 0:
            if k & 1:
                result = self.multiply(result, x)
            k = k >> 1
            # The last square would not be used.
            if k > 0:
                x = self.multiply(x, x)
        return result

    def conjugated(self, x, y):
        """Returns `y^-1 x y`."""
        return self.divided(y, self.multiply(x, y))

    def commutator(self, x, y):
        """Returns `x^-1 y^-1 x y`."""
        return self.divided(self.multiply(y, x), self.multiply(x, y))

    def place(self, x):
        """Returns the first index at which the row is not 0, `n` for 1."""
        for at, item in enumerate(x):
            if item != 0:
                return at
        return self.n

    def order_of(self, x):
        """Returns the order of an element."""
        order = 1
        at = self.place(x)
        while at < self.n:
            order = order * self.primes[at]
            x = self.power(x, self.primes[at])
            at = self.place(x)
        return order

    def product_of(self, items):
        """Returns the product of the items in order, 1 without any."""
        result = self.identity()
        for item in items:
            result = self.multiply(result, item)
        return result

    def _is_word(self, value):
        if not isinstance(value, tuple):
            return False
        return all([is_integer(letter) and letter != 0 and -self.n <= letter <= self.n for letter in value])

    def value(self, word):
        """Returns the value of a word: `k + 1` stands for `g_k`, `-(k + 1)` for its inverse."""
        if not self._is_word(word):
            raise Malformed("the word is no tuple of integers for generators and their inverses")
        backs = [self.presentation.letters(self.inverse(self.generator(i))) for i in range(self.n)]
        result = self.identity()
        for letter in word:
            result = self._collector.behind(result, (letter,) if letter > 0 else backs[-letter - 1])
        return result
