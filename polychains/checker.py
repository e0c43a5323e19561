"""The checker of papers (points 10.1 to 10.7); it calls nothing of chapters 4 to 9."""

from polychains.collect import Collector, overlaps
from polychains.linear import dot, is_row
from polychains.whole import is_integer


def _has_kind(paper, kind):
    """Tells whether a value is a pair that begins with the kind."""
    return isinstance(paper, tuple) and len(paper) == 2 and paper[0] == kind


def _are_elements(group, value):
    return isinstance(value, tuple) and all([group.is_element(x) for x in value])


def _are_letters(value):
    return isinstance(value, tuple) and all([is_integer(letter) for letter in value])


def _left_of(group, rows, x):
    """Returns what sifting by rows with ascending places leaves of an element, and the exponents."""
    exponents = []
    for row in rows:
        # An item in front of this place that is left stays, so then the element does not sift to 1.
        exponent = x[group.place(row)]
        exponents.append(exponent)
        x = group.multiply(group.power(row, -exponent), x)
    return x, tuple(exponents)


def _holds(group, rows, x):
    """Tells whether an element sifts to 1."""
    left, _ = _left_of(group, rows, x)
    return left == group.identity()


def _is_sequence(group, value):
    """Tells whether a value is a sequence: elements in the told form whose powers and conjugates sift to 1."""
    if not _are_elements(group, value):
        return False
    places = [group.place(row) for row in value]
    if group.n in places or places != sorted(set(places)):
        return False
    if any([row[at] != 1 for row, at in zip(value, places)]):
        return False
    for i, row in enumerate(value):
        if not _holds(group, value, group.power(row, group.primes[places[i]])):
            return False
        if not all([_holds(group, value, group.conjugated(later, row)) for later in value[i + 1:]]):
            return False
    return True


def _places_of(group, rows):
    return [group.place(row) for row in rows]


def _order_of(group, rows):
    """Returns the order of the subgroup of a sequence."""
    order = 1
    for at in _places_of(group, rows):
        order = order * group.primes[at]
    return order


def _products(group, rows):
    """Returns the elements of the subgroup of a sequence."""
    found = [group.identity()]
    for row in rows:
        powers = [group.power(row, k) for k in range(group.primes[group.place(row)])]
        found = [group.multiply(x, power) for x in found for power in powers]
    return found


def takes_consistent(presentation, paper):
    """Tells whether the paper shows that the presentation is consistent, or that it is not."""
    full = isinstance(paper, tuple) and len(paper) == 1 and paper[0] == "consistent"
    if not full and not (_has_kind(paper, "overlap") and _are_letters(paper[1])):
        return False
    collector = Collector(presentation)
    empty = (0,) * presentation.n
    failing = [word for word, one, two in overlaps(presentation)
               if collector.behind(empty, one) != collector.behind(empty, two)]
    return not failing if full else paper[1] in failing


def _is_product(group, items, x, word):
    """Tells whether a value is a word in the items whose product is `x`."""
    if not _are_letters(word):
        return False
    if not all([letter != 0 and -len(items) <= letter <= len(items) for letter in word]):
        return False
    backs = [group.inverse(item) for item in items]
    return group.product_of([items[k - 1] if k > 0 else backs[-k - 1] for k in word]) == x


def takes_member(group, items, x, paper):
    """Tells whether the paper shows that `x` is in the subgroup that the items generate, or that it is not."""
    if _has_kind(paper, "word"):
        return _is_product(group, items, x, paper[1])
    if not _has_kind(paper, "sequence") or not _is_sequence(group, paper[1]):
        return False
    return all([_holds(group, paper[1], item) for item in items]) and not _holds(group, paper[1], x)


def _is_complement(group, n, rows):
    """Tells whether a value is a sequence of a complement of `n`."""
    if not _is_sequence(group, rows) or _order_of(group, rows) * n.order != group.order:
        return False
    common = [x for x in _products(group, n.rows) if _holds(group, rows, x)]
    return common == [group.identity()]


def _prime_of(group, n):
    """Returns the prime whose power the order of `n` is; 2 stands for it where `n` is 1."""
    return group.primes[n.places[0]] if n.places else 2


def _coset_row(group, n, free, x):
    """Returns the row of the coset of an element in the quotient by `n`, whose generators have the free places."""
    for row, at in zip(n.rows, n.places):
        x = group.multiply(x, group.power(row, -x[at]))
    return [x[at] for at in free]


def _relations(group, n, free):
    """Returns the relations of the quotient: pairs of sides, which are lists of a generator's index and an exponent."""
    lifts = [group.generator(at) for at in free]
    found = []
    for i, at in enumerate(free):
        power = _coset_row(group, n, free, group.power(lifts[i], group.primes[at]))
        found.append(([(i, group.primes[at])], list(enumerate(power))))
        for j in range(i + 1, len(free)):
            moved = _coset_row(group, n, free, group.conjugated(lifts[j], lifts[i]))
            found.append(([(j, 1), (i, 1)], [(i, 1), *list(enumerate(moved))]))
    return found


def _side(group, members, side):
    """Returns the value of a side with the members in the place of the generators."""
    return group.product_of([group.power(members[k], exponent) for k, exponent in side])


def _coordinates(group, n, relations, members):
    """Returns the coordinates in `n` of all relations with the members in the place of the generators."""
    found = []
    for one, two in relations:
        right = _side(group, members, two)
        _, exponents = _left_of(group, n.rows, group.multiply(group.inverse(right), _side(group, members, one)))
        found.extend(exponents)
    return found


def _is_combination(group, n, weights):
    """Tells whether a value is weights by which the equations of the complements say 0 = 1."""
    p = _prime_of(group, n)
    free = [at for at in range(group.n) if at not in n.places]
    relations = _relations(group, n, free)
    lifts = [group.generator(at) for at in free]
    fixed = _coordinates(group, n, relations, lifts)
    # The right sides are the negatives of the fixed numbers, so their weighted sum is to be 1.
    if not is_row(weights, p, len(fixed)) or dot(weights, fixed, p) != p - 1:
        return False
    for k, lift in enumerate(lifts):
        for row in n.rows:
            members = lifts[:k] + [group.multiply(lift, row)] + lifts[k + 1:]
            # The column of this basis element is what it adds to the fixed numbers.
            if dot(weights, _coordinates(group, n, relations, members), p) != p - 1:
                return False
    return True


def takes_complement(group, n, paper):
    """Tells whether the paper shows a complement of `n`, or that there is none."""
    if _has_kind(paper, "complement"):
        return _is_complement(group, n, paper[1])
    return _has_kind(paper, "combination") and _is_combination(group, n, paper[1])


def takes_hall(group, primes, paper):
    """Tells whether the paper shows a Hall subgroup for the primes."""
    if not _has_kind(paper, "hall") or not _is_sequence(group, paper[1]):
        return False
    places = _places_of(group, paper[1])
    # The primes of the places are those of the order, the other ones are those of the index.
    return all([(group.primes[at] in primes) == (at in places) for at in range(group.n)])


def _is_closed(group, rows):
    """Tells whether the conjugates of all rows by all generators are rows."""
    known = {row: True for row in rows}
    movers = [group.generator(i) for i in range(group.n)]
    return all([group.conjugated(row, mover) in known for row in rows for mover in movers])


def takes_conjugate(group, x, y, paper):
    """Tells whether the paper shows that two elements are conjugate, or that they are not."""
    if _has_kind(paper, "by"):
        return group.is_element(paper[1]) and group.conjugated(x, paper[1]) == y
    if not _has_kind(paper, "apart") or not _are_elements(group, paper[1]):
        return False
    rows = paper[1]
    if any([one >= two for one, two in zip(rows, rows[1:])]):
        return False
    return x in rows and y not in rows and _is_closed(group, rows)
