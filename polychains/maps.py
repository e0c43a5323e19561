"""Homomorphisms, automorphisms and isomorphisms (points 6.1 and 6.2)."""

from polychains.errors import Malformed, Refused
from polychains.sequence import combined, generators_of, orbit_of
from polychains.series import derived_series, lower_central_series
from polychains.subgroup import from_induced, generated

MOST_ORDER = 200
MOST_MAPS = 5000
DEEPEST = 1000


def _are_images(a, b, value):
    """Tells whether a value is a tuple of elements of `b`, one for each generator of `a`."""
    if not isinstance(value, tuple) or len(value) != a.n:
        return False
    return all([b.is_element(image) for image in value])


def _fulfil(a, b, images):
    """Tells whether the images of the generators of `a` in `b` fulfil the relations of `a`."""
    made = a.presentation
    for i in range(a.n):
        if b.power(images[i], a.primes[i]) != combined(b, images, made.powers[i]):
            return False
        for j in range(i + 1, a.n):
            if b.conjugated(images[j], images[i]) != combined(b, images, made.conjugate_row(i, j)):
                return False
    return True


def satisfies(a, b, images):
    """Tells whether a value is a tuple of images of the generators that fulfil the relations."""
    return _are_images(a, b, images) and _fulfil(a, b, images)


class Hom:
    """A homomorphism, told by the images of the generators."""

    def __init__(self, a, b, images):
        if not _are_images(a, b, images):
            raise Malformed("the images are no tuple of elements, one for each generator")
        if not _fulfil(a, b, images):
            raise Refused("relations")
        self.source = a
        self.target = b
        self.images = images

    def __eq__(self, other):
        return (isinstance(other, Hom) and self.source == other.source and self.target == other.target
                and self.images == other.images)

    def value(self, x):
        """Returns the image of an element."""
        return combined(self.target, self.images, x)

    def then(self, other):
        """Returns the homomorphism that does this one first, then the other one."""
        if not isinstance(other, Hom) or other.source != self.target:
            raise Malformed("the source of the other one is not the target")
        return Hom(self.source, other.target, tuple([other.value(image) for image in self.images]))

    def kernel(self):
        """Returns the subgroup of the elements with the image 1."""
        group = self.source
        target = self.target
        # These elements leave 1 where it is, if elements move by their images.
        _, rows = orbit_of(group, generators_of(group), target.identity(),
                           lambda y, x: target.multiply(y, self.value(x)))
        return from_induced(group, rows)

    def image(self):
        """Returns the subgroup of the images."""
        return generated(self.target, self.images)

    def is_one_to_one(self):
        """Tells whether unlike elements have unlike images."""
        return self.kernel().order == 1

    def is_onto(self):
        """Tells whether each element is an image."""
        return self.image().order == self.target.order


class Table:
    """A group of small order, with the numbers of its elements, ascending, in their place; 1 has 0."""

    def __init__(self, group):
        self.rows = list(group.all_elements())
        self.size = group.order
        numbers = {row: k for k, row in enumerate(self.rows)}
        self.generators = [numbers[row] for row in generators_of(group)]
        # The item `x` of the column `y` is the number of `x y`.
        self.columns = _columns(group, self.rows, numbers)
        self.orders = [group.order_of(row) for row in self.rows]
        self.class_sizes = _class_sizes(self.columns)
        # By these a homomorphism can make the order only a divisor, and the depths only more.
        self.kinds = list(zip(self.orders, _depths(derived_series(group), numbers),
                              _depths(lower_central_series(group), numbers)))


def _last_place(row):
    return max([at for at, item in enumerate(row) if item != 0])


def _columns(group, rows, numbers):
    """Returns for each element the numbers of the products of all elements with it."""
    steps = [[numbers[group.multiply(x, mover)] for x in rows] for mover in generators_of(group)]
    columns = [list(range(group.order))]
    for row in rows[1:]:
        at = _last_place(row)
        # The normal word of a row is that of a lesser row with its last letter behind it.
        before = columns[numbers[row[:at] + (row[at] - 1,) + row[at + 1:]]]
        columns.append([steps[at][number] for number in before])
    return columns


def _class_sizes(columns):
    size = len(columns)
    return [size // len([y for y in range(size) if columns[x][y] == columns[y][x]]) for x in range(size)]


def _depths(terms, numbers):
    """Returns for each element the number of the terms of a series that contain it, DEEPEST for the last term.

    Images of the elements of a term are in the same term for the other group, and after the last one
    the terms do not change: so no homomorphism makes the depth less.
    """
    found = [0] * len(numbers)
    for at, term in enumerate(terms):
        for row in term.all_members():
            found[numbers[row]] = at + 1 if at + 1 < len(terms) else DEEPEST
    return found


def _reached(columns, chosen):
    """Returns the numbers of the elements that the chosen ones generate, as a dict."""
    found = [0]
    seen = {0: True}
    done = 0
    while done < len(found):
        for y in chosen:
            x = columns[y][found[done]]
            if x not in seen:
                seen[x] = True
                found.append(x)
        done += 1
    return seen


def _generating(table):
    """Returns elements that generate the group.

    Each one adds as many elements as possible and, among those, commutes with few of the ones before,
    so that a wrong choice of images shows early.
    """
    columns = table.columns
    chosen = []
    inside = {0: True}
    while len(inside) < table.size:
        best = max([(len(_reached(columns, [*chosen, x])),
                     len([y for y in chosen if columns[x][y] != columns[y][x]]), table.class_sizes[x], x)
                    for x in range(table.size) if x not in inside])
        chosen.append(best[-1])
        inside = _reached(columns, chosen)
    return chosen


def _steps(columns, chosen):
    """Returns what a map must keep when the last of the chosen elements joins the other ones.

    A step `(x, k, y, is_new)` says that `y` is the product of `x` and the chosen element `k`;
    it is new if the image of `y` is not known before this step. Short products come first.
    """
    before = _reached(columns, chosen[:-1])
    found = [0]
    seen = {0: True}
    steps = []
    done = 0
    while done < len(found):
        x = found[done]
        done += 1
        for k, element in enumerate(chosen):
            y = columns[element][x]
            if x not in before or k == len(chosen) - 1:
                steps.append((x, k, y, y not in before and y not in seen))
            if y not in seen:
                seen[y] = True
                found.append(y)
    return steps


def _carried_on(known, steps, columns, images, fits):
    """Returns a map with the images that the steps tell, or None if they do not fit or contradict one another."""
    known = list(known)
    for x, k, y, is_new in steps:
        image = columns[images[k]][known[x]]
        if is_new:
            if not fits[y][image]:
                return None
            known[y] = image
        elif known[y] != image:
            return None
    return known


def _maps(plan, columns, choices, fits, most):
    """Returns homomorphisms as lists of the images of all elements, at most as many as told.

    `plan` has the steps of a map for each chosen element, and `choices` the images that this one may
    have; `fits` tells for each element of the source and each one of the target whether it may be the image.
    """
    found = []
    waiting = [([0] + [None] * (len(fits) - 1), ())]
    while waiting and len(found) < most:
        known, images = waiting.pop()
        at = len(images)
        if at == len(plan):
            found.append(known)
            continue
        # Small numbers are tried first: where there are very many maps, such ones are found soon.
        for choice in reversed(choices[at]):
            longer = (*images, choice)
            carried = _carried_on(known, plan[at], columns, longer, fits)
            if carried is not None:
                waiting.append((carried, longer))
    return found


def _choices(chosen, fits):
    return [[y for y, fit in enumerate(fits[x]) if fit] for x in chosen]


def _fewer_choices(chosen, columns, choices, shifts):
    """Returns for each chosen element those choices of which the shifts make all other ones.

    A map may be shifted further on by what does not change the images of the elements before.
    """
    found = []
    left = shifts
    for x, ys in zip(chosen, choices):
        values = sorted(set([shift[x] for shift in left]))
        found.append([y for y in ys if y == min([columns[z][y] for z in values])])
        left = [shift for shift in left if shift[x] == 0]
    return found


def _all_maps(source, target, fits, still, most):
    """Returns homomorphisms, more than `most` if there are so many, and shifts of these.

    A homomorphism times one into the centre of the target, its shift, is a homomorphism again. The
    shifts here take the elements `still` to 1. Each map is in one way the product of a returned one
    and a shift, so that the search need not go through these products.
    """
    chosen = _generating(source)
    columns = target.columns
    plan = [_steps(source.columns, chosen[:k + 1]) for k in range(len(chosen))]
    central = _central_fits(source, target, still)
    shifts = _maps(plan, columns, _choices(chosen, central), central, MOST_MAPS + 1)
    # For isomorphisms of groups of such orders there are at most 2^12 of them.
    if len(shifts) > MOST_MAPS:
        raise Refused("many")
    fewer = _fewer_choices(chosen, columns, _choices(chosen, fits), shifts)
    return _maps(plan, columns, fewer, fits, most // len(shifts) + 1), shifts


def _images_told(source, target, known, shift):
    """Returns the tuple of the images of the generators under the product of a map and a shift."""
    return tuple([target.rows[target.columns[shift[x]][known[x]]] for x in source.generators])


def _as_numbers(one, two):
    """Returns both lists of labels with numbers, by the order of the labels, in their place."""
    numbers = {label: k for k, label in enumerate(sorted(set(one + two)))}
    return [numbers[label] for label in one], [numbers[label] for label in two]


def _finer(table, marks):
    """Returns finer labels: the mark of an element with the marks of all products with it."""
    size = table.size
    return [(marks[x], tuple(sorted([marks[y] * size + marks[table.columns[x][y]] for y in range(size)])))
            for x in range(size)]


def _marks(one, two):
    """Returns for each element of two groups of one order a number that no isomorphism changes."""
    a, b = _as_numbers(list(zip(one.orders, one.class_sizes)), list(zip(two.orders, two.class_sizes)))
    many = 0
    while len(set(a)) > many:
        many = len(set(a))
        a, b = _as_numbers(_finer(one, a), _finer(two, b))
    return a, b


def _fits_by_marks(a, b):
    table = {mark: [other == mark for other in b] for mark in a}
    return [table[mark] for mark in a]


def _may_be_image(x, y):
    """Tells whether an element of the kind `y` may be an image of one of the kind `x`."""
    return x[0] % y[0] == 0 and x[1] <= y[1] and x[2] <= y[2]


def _fits(source, target):
    """Returns for each element of the source and each one of the target whether it may be the image."""
    table = {x: [_may_be_image(x, y) for y in target.kinds] for x in source.kinds}
    return [table[x] for x in source.kinds]


def _central_fits(source, target, still):
    """Returns as `_fits` which elements may be images for maps to the centre that take `still` to 1."""
    fits = _fits(source, target)
    table = [size == 1 for size in target.class_sizes]
    found = [[fit and is_central for fit, is_central in zip(row, table)] for row in fits]
    for x in still:
        found[x] = [y == 0 for y in range(target.size)]
    return found


def _central(table):
    return [x for x, size in enumerate(table.class_sizes) if size == 1]


def _refuse_large(*groups):
    for group in groups:
        if group.order > MOST_ORDER:
            raise Refused("large")


def _sorted_images(source, target, maps, shifts):
    if len(maps) * len(shifts) > MOST_MAPS:
        raise Refused("many")
    return tuple(sorted([_images_told(source, target, known, shift) for known in maps for shift in shifts]))


def homs(a, b):
    """Returns the ascending tuple of the images of all homomorphisms."""
    _refuse_large(a, b)
    source = Table(a)
    target = Table(b)
    maps, shifts = _all_maps(source, target, _fits(source, target), [], MOST_MAPS)
    return _sorted_images(source, target, maps, shifts)


def _one_to_one_maps(source, target, most):
    """Returns isomorphisms and shifts as `_all_maps` does, for groups of one order."""
    one, two = _marks(source, target)
    if sorted(one) != sorted(two):
        return [], []
    # An isomorphism takes only central elements to central ones: if these are not shifted, none gets the image 1.
    return _all_maps(source, target, _fits_by_marks(one, two), _central(source), most)


def automorphisms(g):
    """Returns the ascending tuple of the images of all automorphisms."""
    _refuse_large(g)
    table = Table(g)
    maps, shifts = _one_to_one_maps(table, table, MOST_MAPS)
    return _sorted_images(table, table, maps, shifts)


def find_isomorphism(a, b):
    """Returns the images of an isomorphism, or None."""
    _refuse_large(a, b)
    if a.order != b.order:
        return None
    source = Table(a)
    target = Table(b)
    maps, shifts = _one_to_one_maps(source, target, 0)
    return _images_told(source, target, maps[0], shifts[0]) if maps else None
