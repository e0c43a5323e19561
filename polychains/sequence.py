"""Sequences of subgroups as tuples of rows: sifting, closing, clearing and orbits (points 4.1, 4.2 and 4.4)."""

from polychains.whole import inverse


def generators_of(group):
    """Returns the canonical sequence of the whole group."""
    return tuple([group.generator(i) for i in range(group.n)])


def table_of(group, rows):
    """Returns the dict from the places of the rows to the rows."""
    return {group.place(row): row for row in rows}


def order_of_places(group, places):
    """Returns the product of the primes of the places."""
    order = 1
    for at in places:
        order = order * group.primes[at]
    return order


def sifted(group, table, x):
    """Returns what sifting by the rows of the table leaves of an element."""
    at = group.place(x)
    while at in table:
        x = group.divided(group.power(table[at], x[at]), x)
        at = group.place(x)
    return x


def exponents_in(group, table, x):
    """Returns the exponents by the rows of the table of an element, in order, or None."""
    found = {at: 0 for at in sorted(table)}
    at = group.place(x)
    while at in table:
        found[at] = x[at]
        x = group.divided(group.power(table[at], x[at]), x)
        at = group.place(x)
    if at < group.n:
        return None
    return tuple(found.values())


def combined(group, rows, exponents):
    """Returns the product of the powers of the rows."""
    return group.product_of([group.power(row, exponent) for row, exponent in zip(rows, exponents)])


def cleared(group, rows, x):
    """Returns the element of the left coset of `x` that has 0 at the places of the rows."""
    for row in rows:
        at = group.place(row)
        # By this the items in front of the place do not change any more.
        x = group.multiply(x, group.power(row, -x[at] % group.primes[at]))
    return x


def canonical(group, table):
    """Returns the canonical sequence of the subgroup with the induced sequence in the table."""
    rows = []
    for at in reversed(sorted(table)):
        rows = [cleared(group, rows, table[at]), *rows]
    return tuple(rows)


def _followers(group, table, left, row, movers):
    """Returns what is to be sifted after a new row: pairs of an element and one that conjugates it, or None."""
    place = group.place(row)
    found = [(left, None)] if left != row else []
    found.append((group.power(row, group.primes[place]), None))
    for at, other in table.items():
        found.append((other, row) if at > place else (row, other))
    found.extend([(row, mover) for mover in movers])
    return found


def closed(group, items, movers, most):
    """Returns the canonical sequence of the least subgroup with the items that the movers conjugate to itself.

    It has at most `most` elements: the subgroup is found as soon as there are so many.
    """
    table = {}
    waiting = [(x, None) for x in items]
    done = 0
    order = 1
    while done < len(waiting) and order < most:
        x, mover = waiting[done]
        done += 1
        left = sifted(group, table, x if mover is None else group.conjugated(x, mover))
        at = group.place(left)
        if at < group.n:
            row = group.power(left, inverse(left[at], group.primes[at]))
            waiting.extend(_followers(group, table, left, row, movers))
            table[at] = row
            order = order * group.primes[at]
    return canonical(group, table)


def is_induced(group, rows):
    """Tells whether elements with ascending places and 1 there are an induced sequence."""
    table = table_of(group, rows)
    one = group.identity()
    for i, row in enumerate(rows):
        if sifted(group, table, group.power(row, group.primes[group.place(row)])) != one:
            return False
        for later in rows[i + 1:]:
            moved = group.conjugated(later, row)
            if moved != later and sifted(group, table, moved) != one:
                return False
    return True


def is_canonical(group, value):
    """Tells whether a value is the canonical sequence of a subgroup."""
    if not isinstance(value, tuple) or not all([group.is_element(row) for row in value]):
        return False
    places = [group.place(row) for row in value]
    if group.n in places or places != sorted(set(places)):
        return False
    for i, row in enumerate(value):
        if row[places[i]] != 1 or any([row[at] != 0 for at in places[i + 1:]]):
            return False
    return is_induced(group, value)


def orbit_of(group, rows, point, act):
    """Returns the dict from the points to which a subgroup moves a point to elements that do so, and
    the induced sequence of the elements that leave it where it is.

    The subgroup is told by an induced sequence; `act` returns the point to which an element moves one.
    """
    orbit = {point: group.identity()}
    kept = []
    for row in reversed(rows):
        moved = act(point, row)
        if moved in orbit:
            kept = [group.multiply(row, group.inverse(orbit[moved])), *kept]
        else:
            # The later rows are normal below this one, so its powers move the orbit off itself.
            layer = list(orbit.items())
            for _ in range(group.primes[group.place(row)] - 1):
                layer = [(act(at, row), group.multiply(x, row)) for at, x in layer]
                for at, x in layer:
                    orbit[at] = x
    return orbit, tuple(kept)
