"""Collection of words, overlaps and consistency (points 2.3 to 2.5)."""

from polychains.errors import Malformed
from polychains.whole import is_integer

MOST_LETTERS = 1000


class Collector:
    """Collects words of one presentation.

    What is collected behind a place depends only on the letters there. Such results are
    kept: without them, collecting may take exponentially many steps.
    """

    def __init__(self, presentation):
        self._primes = presentation.primes
        self._words = [(None,) * (i + 1) + tuple([presentation.letters(row) for row in rows])
                       for i, rows in enumerate(presentation.conjugates)]
        zeros = (0,) * presentation.n
        # For each generator what was collected behind it, beginning with the empty word ..
        self._plain = [{zeros[i + 1:]: zeros} for i in range(presentation.n)]
        # .. and beginning with the word of its power.
        self._carried = [{zeros[i + 1:]: row} for i, row in enumerate(presentation.powers)]

    def behind(self, row, word):
        """Returns the row of the normal word of `row` with the letters of `word` behind it."""
        for letter in word:
            row = self._step(row, letter - 1)
        return row

    def _step(self, row, j):
        many = row[j] + 1
        if many == self._primes[j]:
            moved = self._moved(self._carried[j], j, row[j + 1:])
            many = 0
        else:
            moved = self._moved(self._plain[j], j, row[j + 1:])
        return row[:j] + (many,) + moved[j + 1:]

    def _moved(self, known, j, tail):
        """Returns the row of the letters of `tail`, each replaced by its conjugate by `g_j`.

        It goes from the longest beginning of the tail that is known, letter by letter.
        """
        waiting = []
        before = tail
        while before not in known:
            at = _last_place(before)
            waiting.append((before, at + j + 1))
            before = before[:at] + (before[at] - 1,) + before[at + 1:]
        row = known[before]
        for longer, k in reversed(waiting):
            row = self.behind(row, self._words[j][k])
            known[longer] = row
        return row


def _last_place(row):
    at = len(row) - 1
    while row[at] == 0:
        at -= 1
    return at


def _is_word(value, n):
    if not isinstance(value, (list, tuple)) or len(value) > MOST_LETTERS:
        return False
    return all([is_integer(letter) and 1 <= letter <= n for letter in value])


def collected(presentation, word):
    """Returns the collected row of a word."""
    if not _is_word(word, presentation.n):
        raise Malformed("the word is no list or tuple of at most 1000 letters")
    return Collector(presentation).behind((0,) * presentation.n, word)


def product(presentation, x, y):
    """Returns the row of the product of two rows."""
    return Collector(presentation).behind(x, presentation.letters(y))


def _overlaps_of_three(presentation):
    """Returns the overlaps `g_k g_j g_i`."""
    n = presentation.n
    found = []
    for i in range(n):
        for j in range(i + 1, n):
            moved_j = presentation.letters(presentation.conjugate_row(i, j))
            for k in range(j + 1, n):
                moved_k = presentation.letters(presentation.conjugate_row(j, k))
                found.append(((k + 1, j + 1, i + 1), (j + 1, *moved_k, i + 1),
                              (k + 1, i + 1, *moved_j)))
    return found


def _overlaps_of_later_power(presentation, i, j):
    """Returns the overlap `g_j .. g_j g_i`."""
    many = presentation.primes[j]
    power = presentation.letters(presentation.powers[j])
    moved = presentation.letters(presentation.conjugate_row(i, j))
    return (j + 1,) * many + (i + 1,), (*power, i + 1), (j + 1,) * (many - 1) + (i + 1, *moved)


def _overlaps_of_earlier_power(presentation, i, j):
    """Returns the overlap `g_j g_i .. g_i`."""
    many = presentation.primes[i]
    power = presentation.letters(presentation.powers[i])
    moved = presentation.letters(presentation.conjugate_row(i, j))
    return (j + 1,) + (i + 1,) * many, (j + 1, *power), (i + 1, *moved) + (i + 1,) * (many - 1)


def _overlap_of_power(presentation, i):
    """Returns the overlap `g_i .. g_i`, one letter longer than the power."""
    power = presentation.letters(presentation.powers[i])
    return (i + 1,) * (presentation.primes[i] + 1), (*power, i + 1), (i + 1, *power)


def overlaps(presentation):
    """Returns the triples of an overlap and its two words."""
    n = presentation.n
    pairs = [(i, j) for i in range(n) for j in range(i + 1, n)]
    found = _overlaps_of_three(presentation)
    found.extend([_overlaps_of_later_power(presentation, i, j) for i, j in pairs])
    found.extend([_overlaps_of_earlier_power(presentation, i, j) for i, j in pairs])
    found.extend([_overlap_of_power(presentation, i) for i in range(n)])
    return tuple(found)


def failing_overlap(presentation):
    """Returns the word of the first overlap whose words collect to unlike rows, or None."""
    collector = Collector(presentation)
    empty = (0,) * presentation.n
    for word, one, two in overlaps(presentation):
        if collector.behind(empty, one) != collector.behind(empty, two):
            return word
    return None


def is_consistent(presentation):
    """Tells whether both words of each overlap collect to one row."""
    return failing_overlap(presentation) is None
