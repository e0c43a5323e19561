"""Centralizers, normalizers and conjugacy classes (point 5.4)."""

from polychains.errors import Malformed
from polychains.sequence import generators_of, orbit_of
from polychains.subgroup import Subgroup, check_elements, check_pair, conjugated_rows, from_induced, representative


def _check_element(group, x):
    if not group.is_element(x):
        raise Malformed("the value is no element of the group")


def _orbit_of_element(group, rows, x):
    """Returns what `orbit_of` does for conjugating an element."""
    return orbit_of(group, rows, x, lambda y, z: group.conjugated(y, z))


def _orbit_of_subgroup(u):
    """Returns what `orbit_of` does for conjugating a subgroup, told by its rows, by the whole group."""
    group = u.group
    return orbit_of(group, generators_of(group), u.rows, lambda rows, x: conjugated_rows(group, rows, u.order, x))


def centralizer(group, items):
    """Returns the subgroup of the elements that commute with the items."""
    check_elements(group, items)
    rows = generators_of(group)
    for x in items:
        _, rows = _orbit_of_element(group, rows, x)
    return from_induced(group, rows)


def centre(group):
    """Returns the subgroup of the elements that commute with all elements."""
    return centralizer(group, generators_of(group))


def normalizer(u):
    """Returns the subgroup of the elements `x` with `U^x = U`."""
    _, rows = _orbit_of_subgroup(u)
    return from_induced(u.group, rows)


def class_of(group, x):
    """Returns the ascending tuple of the conjugates of an element."""
    _check_element(group, x)
    orbit, _ = _orbit_of_element(group, generators_of(group), x)
    return tuple(sorted(orbit))


def conjugacy_classes(group):
    """Returns the ascending tuple of the pairs of the least element of a class and its size."""
    found = []
    seen = {}
    for x in group.all_elements():
        if x not in seen:
            members = class_of(group, x)
            found.append((x, len(members)))
            for y in members:
                seen[y] = True
    return tuple(found)


def conjugator(group, x, y):
    """Returns the least element `z` with `x^z = y`, or None."""
    _check_element(group, x)
    _check_element(group, y)
    orbit, rows = _orbit_of_element(group, generators_of(group), x)
    if y not in orbit:
        return None
    return _least_in_right_coset(from_induced(group, rows), orbit[y])


def _least_in_right_coset(u, x):
    """Returns the least element of `U x`."""
    # This is the left coset x U^x, whose least element has 0 at the places of U^x: another one
    # differs from it first at one of these places.
    group = u.group
    return representative(Subgroup(group, conjugated_rows(group, u.rows, u.order, x)), x)


def subgroup_conjugator(u, v):
    """Returns the least element `x` with `U^x = V`, or None."""
    check_pair(u, v)
    orbit, rows = _orbit_of_subgroup(u)
    if v.rows not in orbit:
        return None
    return _least_in_right_coset(from_induced(u.group, rows), orbit[v.rows])


def subgroup_class(u):
    """Returns the tuple of the conjugates of a subgroup, ascending by their rows."""
    orbit, _ = _orbit_of_subgroup(u)
    return tuple([Subgroup(u.group, rows) for rows in sorted(orbit)])
