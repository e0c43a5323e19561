"""What several tests use: odd values, rows by counting, and collection straight from its description."""

import itertools

from polychains.console import Console
from polychains.errors import Fault, Malformed, NoText, Refused
from polychains.extension import Module, trivial_module
from polychains.group import Group
from polychains.maps import Hom
from polychains.pres import Presentation
from polychains.quotient import Quotient
from polychains.replies import Reply
from polychains.subgroup import Subgroup, trivial, whole


def triangle():
    return Presentation((2, 3), ((0, 0), (0, 0)), (((0, 2),), ()))


def odd_values():
    """Values of every kind that the document speaks of, most of them wrong for most arguments."""
    return [
        None, True, False, 0, 1, 2, 3, -1, -2, 31, 37, 10 ** 40, -10 ** 40,
        "", "0", "1", "2 3", ":", "abc", "(1,)",
        [], [0], [1], [0, 0], [1, 1], [True], [None], ["1"], [[]], [()], [(0,)], [[0]],
        (), (0,), (1,), (0, 0), (0, 1), (1, 1), (2, 3), (-1,), (-1, 0), (0, 0, 0), (10 ** 40,),
        (True,), (False,), (0, False), (True, 0), (None,), ("1",), ("a", 0), ((),), ((0,),), ([],), ([0],),
        ((0, 0), (0, 0)), [(0, 0), (0, 0)], ((0, 0), [0, 0]), ([0, 0], (0, 0)), ((1, 0), (0, True)),
        ((0, 0), (0, 0), (0, 0)), (((0, 0),),), ((((),),),),
        triangle(), (triangle(),), [triangle()], Group(triangle()), (Group(triangle()), 0),
        whole(Group(triangle())), trivial(Group(triangle())), (whole(Group(triangle())),), [trivial(Group(triangle()))],
        Quotient(Group(triangle()), whole(Group(triangle()))), Hom(Group(triangle()), Group(triangle()), ((0, 0), (0, 0))),
        trivial_module(Group(triangle()), 2, 1), (trivial_module(Group(triangle()), 5, 2),), Console(), [Console()],
        Reply("done"), (Reply("number", "1"),), ("", Reply("done")), ["", Reply("done")],
        Fault("word"), Malformed("word"), Refused("word"), NoText(3), (Refused("word"),),
    ]


def is_plain_integer(value):
    """Whether a value is an integer, told by its class alone."""
    return value.__class__ is int


def every_row(width, p):
    return list(itertools.product(range(p), repeat=width))


def every_row_of(primes):
    return list(itertools.product(*[range(p) for p in primes]))


def raised(kind, function, *args):
    """Calls a function that must raise an error of exactly this class, and returns the error."""
    try:
        result = function(*args)
    except Fault as fault:
        assert fault.__class__ is kind, (kind, fault.__class__, args)
        return fault
    raise AssertionError((kind, "not raised", args, result))


def shown(value):
    """What a value is, with the kinds of its parts, also those of presentations and groups."""
    if isinstance(value, (list, tuple)):
        return f"{value.__class__.__name__}({', '.join([shown(item) for item in value])})"
    if isinstance(value, Presentation):
        return f"presentation{shown((value.n, value.primes, value.powers, value.conjugates, value.order))}"
    if isinstance(value, Group):
        return f"group{shown((value.presentation, value.n, value.primes, value.order))}"
    if isinstance(value, Subgroup):
        return f"subgroup{shown((value.group, value.rows, value.places, value.order))}"
    if isinstance(value, Quotient):
        return f"quotient{shown((value.source, value.kernel, value.group))}"
    if isinstance(value, Hom):
        return f"hom{shown((value.source, value.target, value.images))}"
    if isinstance(value, Module):
        return f"module{shown((value.group, value.p, value.d, value.matrices))}"
    if isinstance(value, Reply):
        return f"reply{shown((value.kind, value.text, value.data))}"
    if isinstance(value, Console):
        return f"console{shown((list(value), value.names()))}"
    if isinstance(value, dict):
        return f"dict{shown([list(value), list(value.values())])}"
    return repr(value)


def unchanged(function, *args):
    """Calls a function and checks that its arguments are what they were, also in their kinds."""
    before = shown(args)
    result = function(*args)
    assert shown(args) == before, (function, before, args)
    return result


def plainly_collected(presentation, word):
    """Collects a word by the words of point 2.3, without keeping anything."""
    row = (0,) * presentation.n
    for letter in word:
        row = plain_step(presentation, row, letter - 1)
    return row


def plain_word(row):
    word = ()
    for at, item in enumerate(row):
        word = word + (at + 1,) * item
    return word


def plain_step(presentation, row, j):
    behind = ()
    for k in range(j + 1, presentation.n):
        behind = behind + plain_word(presentation.conjugates[j][k - j - 1]) * row[k]
    if row[j] + 1 == presentation.primes[j]:
        item = 0
        result = presentation.powers[j]
    else:
        item = row[j] + 1
        result = (0,) * presentation.n
    for letter in behind:
        result = plain_step(presentation, result, letter - 1)
    assert not any(result[:j + 1])
    return row[:j] + (item,) + result[j + 1:]


def every_presentation(primes):
    """All presentations with these primes."""
    n = len(primes)
    sides = [[(0,) * (i + 1) + row for row in every_row_of(primes[i + 1:])] for i in range(n)]
    kinds = [sides[i] for i in range(n) for _ in range(n - i)]
    for rows in itertools.product(*kinds):
        powers = []
        conjugates = []
        at = 0
        for i in range(n):
            powers.append(rows[at])
            conjugates.append(rows[at + 1:at + n - i])
            at += n - i
        yield Presentation(primes, tuple(powers), tuple(conjugates))


def some_presentation(primes, chooser):
    """A presentation with these primes and right sides that the chooser (a random.Random) chooses."""
    n = len(primes)

    def side(i):
        return (0,) * (i + 1) + tuple(chooser.randrange(p) for p in primes[i + 1:])

    powers = tuple(side(i) for i in range(n))
    conjugates = tuple(tuple(side(i) for _ in range(i + 1, n)) for i in range(n))
    return Presentation(primes, powers, conjugates)


def plain_overlaps(presentation):
    """The overlaps as point 2.4 and the interface tell them."""
    n = presentation.n
    primes = presentation.primes

    def power(i):
        return plain_word(presentation.powers[i])

    def moved(i, j):
        return plain_word(presentation.conjugates[i][j - i - 1])

    pairs = list(itertools.combinations(range(n), 2))
    found = []
    for i, j, k in itertools.combinations(range(n), 3):
        a, b, c = (i + 1,), (j + 1,), (k + 1,)
        found.append((c + b + a, b + moved(j, k) + a, c + a + moved(i, j)))
    for i, j in pairs:
        a, b = (i + 1,), (j + 1,)
        found.append((b * primes[j] + a, power(j) + a, b * (primes[j] - 1) + a + moved(i, j)))
    for i, j in pairs:
        a, b = (i + 1,), (j + 1,)
        found.append((b + a * primes[i], b + power(i), a + moved(i, j) + a * (primes[i] - 1)))
    for i in range(n):
        a = (i + 1,)
        found.append((a * (primes[i] + 1), power(i) + a, a + power(i)))
    return tuple(found)
