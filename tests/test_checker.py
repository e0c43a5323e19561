import ast
import contextlib
import importlib
import inspect
import itertools
import random
import unittest
from unittest import mock

from helpers import (every_presentation, every_row, is_plain_integer, odd_values, plain_overlaps, plainly_collected,
                     some_presentation, triangle, unchanged)
from plain import plain_of, prime_factors, small_groups, tiny_groups
from polychains import checker
from polychains.build import abelian, cyclic, dicyclic, dihedral, direct, symmetric, wreath
from polychains.checker import takes_complement, takes_conjugate, takes_consistent, takes_hall, takes_member
from polychains.complement import combination, equations
from polychains.group import Group
from polychains.papers import complement_paper, conjugate_paper, consistency_paper, hall_paper, member_paper
from polychains.pres import Presentation
from polychains.subgroup import Subgroup, generated, trivial, whole

KINDS = ("consistent", "overlap", "word", "sequence", "complement", "combination", "hall", "by", "apart")


def told_kinds(value):
    """A value with the kinds of all its parts, so that True and 1 are unlike, and lists and tuples."""
    if isinstance(value, (list, tuple)):
        return (value.__class__.__name__, *[told_kinds(item) for item in value])
    return (value.__class__.__name__, value)


def spoilt(value):
    """Values that are unlike a paper: a list in the place of a tuple, True or False or a string of an integer."""
    if isinstance(value, tuple):
        yield list(value)
        for at, item in enumerate(value):
            for other in spoilt(item):
                yield value[:at] + (other,) + value[at + 1:]
    elif is_plain_integer(value):
        yield from [value == 1, str(value), (value,), None]
    else:
        yield from [value + "s", value[:-1], value.upper(), None, (value,), 1]


def odd_papers():
    """Values that are no papers of any kind, whatever the group."""
    yield from odd_values()
    for kind in KINDS:
        yield from [kind, [kind], (kind, (), ()), (kind, (), 0), [kind, ()], (kind, []), (kind, None), (kind, 0), (kind, 1),
                    (kind, True), (kind, False), (kind, "1"), (kind, "()"), (kind, [()]), (kind, ((),) * 2), (kind, ([],)),
                    (kind, Group(triangle())), (kind, whole(Group(triangle()))), (kind, (None,)), (kind, ("1",)),
                    (kind, (True,)), (kind, (False,)), (kind, ((True, 0),)), (kind, (10 ** 40,)), (kind, (-10 ** 40,)),
                    ((kind,), ()), ((kind, ()),), (kind.upper(), ()), (kind + " ", ()), (None, ()), (0, ()), ((), kind),
                    (kind, kind), (kind, ((kind,),)), (kind, triangle()), ("", ()), ("other", ())]
    yield from [("consistent", ()), ("consistent", "consistent"), ("consistent", None), ["consistent"], ("overlap",), ("word",)]


def is_sequence(plain, rows):
    """Whether a value is a sequence, and its subgroup: its products are closed, and as many as told."""
    if not isinstance(rows, tuple) or not all(told_kinds(row) in plain.kinds for row in rows):
        return False
    places = [plain.place(row) for row in rows]
    if places != sorted(set(places)) or plain.group.n in places or any(row[at] != 1 for row, at in zip(rows, places)):
        return False
    return len(plain.closing(rows)) == order_of(plain, rows)


def order_of(plain, rows):
    order = 1
    for row in rows:
        order *= plain.group.primes[plain.place(row)]
    return order


def with_kinds(plain):
    plain.kinds = {told_kinds(x) for x in plain.rows}
    return plain


def induced_sequences(plain, members, chooser, many):
    """Some induced sequences of a subgroup, most of them not canonical."""
    places = plain.places(members)
    fitting = [[x for x in sorted(members) if plain.place(x) == at and x[at] == 1] for at in places]
    return [tuple(chooser.choice(rows) for rows in fitting) for _ in range(many)]


def some_rows(plain, chooser):
    """Tuples of elements: sequences, and many that are none."""
    found = [()] + [(x,) for x in plain.rows]
    pairs = list(itertools.product(plain.rows, repeat=2))
    found += pairs if len(pairs) <= 36 else chooser.sample(pairs, 36)
    found += [tuple(chooser.choice(plain.rows) for _ in range(chooser.choice((3, 4)))) for _ in range(20)]
    for members in plain.subgroups():
        rows = plain.canonical(members)
        found += [rows, rows[::-1], rows[1:], rows[:-1], rows + (plain.one,), rows + rows[:1]]
        found += induced_sequences(plain, members, chooser, 3)
        for at, row in enumerate(rows):
            # Another item than 1 at the place.
            found.append(rows[:at] + (plain.power(row, 2),) + rows[at + 1:])
            found.append(rows[:at] + (plain.power(row, plain.group.primes[plain.place(row)] - 1),) + rows[at + 1:])
    return found


def groups():
    return [with_kinds(plain) for plain in [*list(tiny_groups())[::2], *small_groups()]]


class Consistent(unittest.TestCase):
    def check(self, made):
        failing = [word for word, one, two in plain_overlaps(made)
                   if plainly_collected(made, one) != plainly_collected(made, two)]
        self.assertIs(unchanged(takes_consistent, made, ("consistent",)), not failing)
        for word, one, two in plain_overlaps(made):
            self.assertIs(unchanged(takes_consistent, made, ("overlap", word)), word in failing)
            for other in (one, two, word[1:], word[:-1], word + word[-1:], word[::-1], ()):
                self.assertIs(takes_consistent(made, ("overlap", other)), other in failing)
            for bad in spoilt(("overlap", word)):
                self.assertIs(takes_consistent(made, bad), False)
        self.assertIs(takes_consistent(made, consistency_paper(made)), True)
        first = ("overlap", failing[0]) if failing else ("consistent",)
        self.assertEqual(told_kinds(unchanged(consistency_paper, made)), told_kinds(first))

    def test_small_presentations(self):
        for primes in ((), (2,), (3,), (2, 2), (2, 3), (3, 2)):
            for made in every_presentation(primes):
                self.check(made)
        chooser = random.Random(1)
        for made in chooser.sample(list(every_presentation((2, 2, 2))), 60):
            self.check(made)

    def test_larger_presentations(self):
        chooser = random.Random(2)
        for primes in ((2, 3, 2), (3, 3, 3), (2, 2, 2, 2), (2, 3, 2, 2), (5, 2, 5), (31, 31)):
            for _ in range(6):
                self.check(some_presentation(primes, chooser))
        for made in (symmetric(4), cyclic(31), wreath(cyclic(2), 3), abelian((2, 3, 2)), cyclic(1)):
            self.check(made)

    def test_all_words(self):
        for made in (Presentation((2, 3), ((0, 1), (0, 0)), (((0, 2),), ())), symmetric(3),
                     Presentation((2, 2), ((0, 1), (0, 0)), (((0, 0),), ()))):
            failing = [word for word, one, two in plain_overlaps(made)
                       if plainly_collected(made, one) != plainly_collected(made, two)]
            for length in range(6):
                for word in itertools.product(range(-1, 4), repeat=length):
                    self.assertIs(takes_consistent(made, ("overlap", word)), word in failing)

    def test_other_values(self):
        for made in (triangle(), cyclic(1), Presentation((2, 3), ((0, 1), (0, 0)), (((0, 2),), ()))):
            for value in odd_papers():
                self.assertIs(unchanged(takes_consistent, made, value), False)
            for value in spoilt(("consistent",)):
                self.assertIs(takes_consistent(made, value), False)
        # True is no letter, although it is equal to one.
        made = Presentation((2, 3), ((0, 1), (0, 0)), (((0, 2),), ()))
        self.assertIs(takes_consistent(made, ("overlap", (1, 1, 1))), True)
        self.assertIs(takes_consistent(made, ("overlap", (1, True, 1))), False)


class Member(unittest.TestCase):
    def test_words(self):
        chooser = random.Random(3)
        for plain in groups():
            for many in range(4):
                items = [chooser.choice(plain.rows) for _ in range(many)]
                letters = [k for k in range(-many, many + 1) if k]
                for length in (0, 1, 2, 3, 7):
                    word = tuple(chooser.choice(letters) for _ in range(length)) if letters else ()
                    value = plain.times(*[items[k - 1] if k > 0 else plain.inverses[items[-k - 1]] for k in word])
                    for x in plain.rows:
                        told = unchanged(takes_member, plain.group, chooser.choice([list, tuple])(items), x, ("word", word))
                        self.assertIs(told, x == value)
                    for at in range(len(word) + 1):
                        for letter in (0, many + 1, -many - 1, 10 ** 40, -10 ** 40, True, False, None, "1", (1,), [1]):
                            bad = word[:at] + (letter,) + word[at:]
                            self.assertFalse(any(takes_member(plain.group, items, x, ("word", bad)) for x in plain.rows[:6]))
                    for bad in spoilt(("word", word)):
                        self.assertFalse(any(takes_member(plain.group, items, x, bad) for x in (value, plain.one)), bad)

    def test_sequences(self):
        chooser = random.Random(4)
        for plain in groups():
            for rows in some_rows(plain, chooser):
                good = is_sequence(plain, rows)
                members = plain.closing(rows) if good else ()
                for _ in range(3):
                    inside = sorted(members) if good and chooser.randrange(4) else plain.rows
                    items = [chooser.choice(inside) for _ in range(chooser.randrange(3))]
                    x = chooser.choice(plain.rows)
                    expected = good and all(item in members for item in items) and x not in members
                    self.assertIs(unchanged(takes_member, plain.group, items, x, ("sequence", rows)), expected)
                if good and len(members) < len(plain.rows):
                    x = chooser.choice([x for x in plain.rows if x not in members])
                    self.assertIs(takes_member(plain.group, rows, x, ("sequence", rows)), True)
                    for bad in spoilt(("sequence", rows)):
                        self.assertIs(takes_member(plain.group, rows, x, bad), False)

    def test_papers(self):
        chooser = random.Random(5)
        for plain in groups():
            for _ in range(12):
                items = [chooser.choice(plain.rows) for _ in range(chooser.randrange(4))]
                x = chooser.choice(plain.rows)
                paper = unchanged(member_paper, plain.group, chooser.choice([list, tuple])(items), x)
                self.assertIs(takes_member(plain.group, items, x, paper), True)
                self.assertEqual((paper.__class__, paper[0]), (tuple, "word" if x in plain.closing(items) else "sequence"))

    def test_other_values(self):
        for made in (cyclic(1), cyclic(2), triangle(), abelian((2, 2))):
            group = Group(made)
            for items in ((), [group.identity()], list(group.all_elements())):
                for x in group.all_elements():
                    for value in odd_papers():
                        if isinstance(value, tuple) and value in [("word", ()), ("sequence", ()), ("sequence", ((),))]:
                            continue
                        self.assertIs(takes_member(group, items, x, value), False, value)

    def test_no_two_kinds(self):
        for plain in small_groups()[:8]:
            with_kinds(plain)
            for members in plain.subgroups():
                items = plain.canonical(members)
                for x in plain.rows:
                    papers = [("sequence", plain.canonical(other)) for other in plain.subgroups()]
                    taken = any(takes_member(plain.group, items, x, paper) for paper in papers)
                    self.assertIs(taken, x not in members)


def elementary(plain):
    """The normal elementary abelian subgroups, with their prime."""
    for members in plain.subgroups():
        orders = {plain.order_of(x) for x in members} - {1}
        if plain.is_abelian(members) and len(orders) < 2 and all(prime_factors(p) == [p] for p in orders):
            if plain.is_normal(members):
                yield members, Subgroup(plain.group, plain.canonical(members)), min(orders, default=2)


class Complement(unittest.TestCase):
    def test_complements(self):
        chooser = random.Random(6)
        for plain in groups():
            told = some_rows(plain, chooser)
            for members, n, _ in elementary(plain):
                for rows in told:
                    own = plain.closing(rows)
                    expected = (is_sequence(plain, rows) and len(own) * len(members) == len(plain.rows)
                                and own & members == plain.trivial)
                    self.assertIs(takes_complement(plain.group, n, ("complement", rows)), expected)
                    if expected:
                        for bad in spoilt(("complement", rows)):
                            self.assertIs(takes_complement(plain.group, n, bad), False)

    def test_combinations(self):
        chooser = random.Random(7)
        found = 0
        for plain in groups():
            for _, n, p in elementary(plain):
                rows, right = equations(plain.group, n)
                every = every_row(len(right), p) if p ** len(right) <= 128 else [
                    tuple(chooser.randrange(p) for _ in right) for _ in range(40)]
                one = combination(plain.group, n)
                every += [one] if one is not None else []
                for weights in every:
                    sums = [sum(w * row[at] for w, row in zip(weights, rows)) % p for at in range(len(rows[0]) if rows else 0)]
                    expected = not any(sums) and sum(w * r for w, r in zip(weights, right)) % p == 1
                    self.assertIs(unchanged(takes_complement, plain.group, n, ("combination", weights)), expected)
                    found += expected
                if one is not None:
                    for bad in (*spoilt(("combination", one)), ("combination", one + (0,)), ("combination", one[:-1]),
                                ("combination", (0, *one))):
                        self.assertIs(takes_complement(plain.group, n, bad), False)
                    for at in range(len(one)):
                        for item in (one[at] + p, one[at] - p, -1, p, 10 ** 40, True, False):
                            bad = one[:at] + (item,) + one[at + 1:]
                            self.assertIs(takes_complement(plain.group, n, ("combination", bad)), False)
        self.assertGreater(found, 100)

    def test_papers(self):
        kinds = []
        for plain in groups():
            for members, n, _ in elementary(plain):
                paper = unchanged(complement_paper, plain.group, n)
                self.assertIs(takes_complement(plain.group, n, paper), True)
                has_one = any(len(own) * len(members) == len(plain.rows) and own & members == plain.trivial
                              for own in plain.subgroups())
                self.assertEqual((paper.__class__, paper[0]), (tuple, "complement" if has_one else "combination"))
                kinds.append(paper[0])
        self.assertGreater(min(kinds.count("complement"), kinds.count("combination")), 10)

    def test_places_in_common(self):
        # The subgroup and a complement may have one place, and the lifts times elements an earlier place.
        group = Group(abelian((2, 2)))
        n = generated(group, [(1, 1)])
        for rows, expected in ((((1, 0),), True), (((0, 1),), True), (((1, 1),), False), ((), False), (((1, 0), (0, 1)), False)):
            self.assertIs(takes_complement(group, n, ("complement", rows)), expected)
        for made in (abelian((2, 4)), abelian((4, 2)), abelian((3, 9)), direct(cyclic(2), dicyclic(2)), abelian((2, 9, 3))):
            plain = with_kinds(plain_of(made))
            for _, n, p in elementary(plain):
                self.assertIs(takes_complement(plain.group, n, complement_paper(plain.group, n)), True)

    def test_larger_groups(self):
        for made, items in ((abelian((4,) * 5), [(0, 1) * 5]), (abelian((2,) * 10), [(1,) * 10]), (cyclic(1024), [(0,) * 9 + (1,)]),
                            (abelian((4,) * 5), [(0, 1) + (0,) * 8, (0,) * 9 + (1,)]), (abelian((31, 31)), [(1, 5)])):
            group = Group(made)
            n = generated(group, items)
            self.assertIs(takes_complement(group, n, complement_paper(group, n)), True)

    def test_other_values(self):
        for made in (cyclic(1), cyclic(2), triangle(), cyclic(4)):
            plain = with_kinds(plain_of(made))
            for members, n, _ in elementary(plain):
                for value in odd_papers():
                    if value in [("complement", ()), ("complement", ((),))]:
                        continue
                    self.assertIs(unchanged(takes_complement, plain.group, n, value), False, value)

    def test_ends(self):
        for plain in groups():
            group = plain.group
            everything = tuple(group.generator(i) for i in range(group.n))
            self.assertIs(takes_complement(group, trivial(group), ("complement", everything)), True)
            self.assertIs(takes_complement(group, trivial(group), ("complement", ())), group.order == 1)
            self.assertIs(takes_complement(group, trivial(group), ("combination", ())), False)
        group = Group(abelian((3, 3)))
        self.assertIs(takes_complement(group, whole(group), ("complement", ())), True)
        self.assertIs(takes_complement(group, whole(group), ("combination", ())), False)


class Hall(unittest.TestCase):
    SETS = [primes for many in range(4) for primes in itertools.combinations((2, 3, 5, 7), many)]

    def test_sequences(self):
        chooser = random.Random(8)
        for plain in groups():
            for rows in some_rows(plain, chooser):
                good = is_sequence(plain, rows)
                order = len(plain.closing(rows))
                for primes in self.SETS:
                    expected = (good and all(p in primes for p in prime_factors(order))
                                and all(len(plain.rows) // order % p for p in primes))
                    told = chooser.choice([list, tuple])(chooser.choice([primes, primes[::-1], primes + primes]))
                    self.assertIs(takes_hall(plain.group, told, ("hall", rows)), expected)
                    if expected and primes in ((2,), (3,), (2, 3)):
                        for bad in spoilt(("hall", rows)):
                            self.assertIs(takes_hall(plain.group, told, bad), False)

    def test_papers(self):
        for plain in groups():
            for primes in self.SETS:
                paper = unchanged(hall_paper, plain.group, primes)
                self.assertEqual((paper.__class__, paper[0]), (tuple, "hall"))
                self.assertIs(unchanged(takes_hall, plain.group, list(primes), paper), True)

    def test_other_values(self):
        for made in (cyclic(1), cyclic(2), triangle(), cyclic(4)):
            group = Group(made)
            for primes in ((), (2,), [3], (2, 3), (31,)):
                for value in odd_papers():
                    if value not in [("hall", ())]:
                        self.assertIs(unchanged(takes_hall, group, primes, value), False)


class Conjugate(unittest.TestCase):
    def test_by(self):
        for plain in groups():
            for x, z in itertools.product(plain.rows[:8], plain.rows):
                for y in {plain.conjugated(x, z), plain.one, x, plain.rows[-1]}:
                    expected = plain.conjugated(x, z) == y
                    self.assertIs(takes_conjugate(plain.group, x, y, ("by", z)), expected)
                    if expected:
                        for bad in spoilt(("by", z)):
                            self.assertIs(takes_conjugate(plain.group, x, y, bad), False)

    def test_apart_with_all_sets_of_elements(self):
        for plain in groups():
            if len(plain.rows) > 8:
                continue
            for many in range(len(plain.rows) + 1):
                for rows in itertools.combinations(plain.rows, many):
                    closed = all(plain.conjugated(x, y) in rows for x in rows for y in plain.rows)
                    for x, y in ((plain.rows[-1], plain.one), (plain.rows[-1], plain.rows[-2] if many > 1 else plain.one),
                                 (plain.one, plain.rows[-1])):
                        expected = closed and x in rows and y not in rows
                        self.assertIs(takes_conjugate(plain.group, x, y, ("apart", rows)), expected)

    def test_apart(self):
        chooser = random.Random(9)
        for plain in groups():
            classes = []
            for x in plain.rows:
                members = tuple(sorted({plain.conjugated(x, y) for y in plain.rows}))
                if members not in classes:
                    classes.append(members)
            for _ in range(15):
                chosen = chooser.sample(classes, chooser.randrange(len(classes) + 1))
                rows = tuple(sorted(x for members in chosen for x in members))
                x, y = chooser.choice(plain.rows), chooser.choice(plain.rows)
                self.assertIs(unchanged(takes_conjugate, plain.group, x, y, ("apart", rows)), x in rows and y not in rows)
                if x in rows and y not in rows:
                    for bad in (*spoilt(("apart", rows[:12])), ("apart", rows + rows[-1:]), ("apart", rows[:1] + rows)):
                        self.assertIs(takes_conjugate(plain.group, x, y, bad), False)
                    if len(rows) > 1:
                        for bad in (rows[::-1], (rows[1], rows[0], *rows[2:]), rows[-1:] + rows[:-1]):
                            self.assertIs(takes_conjugate(plain.group, x, y, ("apart", bad)), False)
                    for at in range(len(rows)):
                        less = rows[:at] + rows[at + 1:]
                        single = all(plain.conjugated(rows[at], z) == rows[at] for z in plain.rows)
                        self.assertIs(takes_conjugate(plain.group, x, y, ("apart", less)), single and rows[at] != x)

    def test_papers(self):
        for plain in groups():
            for x, y in itertools.product(plain.rows[:10], plain.rows):
                paper = conjugate_paper(plain.group, x, y)
                self.assertIs(takes_conjugate(plain.group, x, y, paper), True)
                are = any(plain.conjugated(x, z) == y for z in plain.rows)
                self.assertEqual((paper.__class__, paper[0]), (tuple, "by" if are else "apart"))
            self.assertIs(unchanged(takes_conjugate, plain.group, plain.one, plain.one, ("by", plain.rows[-1])), True)

    def test_other_values(self):
        for made in (cyclic(1), cyclic(2), triangle(), cyclic(4)):
            group = Group(made)
            for x, y in itertools.product(group.all_elements(), repeat=2):
                for value in odd_papers():
                    if value not in [("by", ())]:
                        self.assertIs(takes_conjugate(group, x, y, value), False, value)


class Independence(unittest.TestCase):
    LATER = "subgroup quotient series classes maps complement hall extension papers sequence".split()

    def test_imports(self):
        for node in ast.walk(ast.parse(inspect.getsource(checker))):
            if isinstance(node, ast.ImportFrom):
                self.assertIn(node.module, [f"polychains.{name}" for name in "errors whole linear pres collect group build".split()])
            self.assertNotIsInstance(node, ast.Import)

    def test_calls_nothing_of_later_chapters(self):
        """All papers are checked while every function and method of these chapters fails."""
        group = Group(symmetric(4))
        n = generated(group, [(0, 0, 1, 0), (0, 0, 0, 1)])
        cases = [(takes_member, [group, ((0, 1, 0, 0),), (0, 2, 0, 0)], member_paper(group, ((0, 1, 0, 0),), (0, 2, 0, 0))),
                 (takes_member, [group, ((0, 1, 0, 0),), (1, 0, 0, 0)], member_paper(group, ((0, 1, 0, 0),), (1, 0, 0, 0))),
                 (takes_complement, [group, n], complement_paper(group, n)),
                 (takes_hall, [group, (2,)], hall_paper(group, (2,))),
                 (takes_conjugate, [group, (0, 1, 0, 0), (0, 2, 0, 0)], conjugate_paper(group, (0, 1, 0, 0), (0, 2, 0, 0))),
                 (takes_conjugate, [group, (0, 1, 0, 0), (1, 0, 0, 0)], conjugate_paper(group, (0, 1, 0, 0), (1, 0, 0, 0))),
                 (takes_consistent, [symmetric(4)], ("consistent",))]
        four = Group(cyclic(4))
        two = generated(four, [(0, 1)])
        cases.append((takes_complement, [four, two], complement_paper(four, two)))

        def fails(*args, **more):
            raise AssertionError("the checker calls something of a later chapter")

        with contextlib.ExitStack() as stack:
            for name in self.LATER:
                module = importlib.import_module(f"polychains.{name}")
                for key, value in list(vars(module).items()):
                    if inspect.isfunction(value) and value.__module__ == module.__name__:
                        stack.enter_context(mock.patch.object(module, key, fails))
                    elif inspect.isclass(value) and value.__module__ == module.__name__:
                        for method in [key for key, item in vars(value).items() if inspect.isfunction(item)]:
                            stack.enter_context(mock.patch.object(value, method, fails))
            for function, args, paper in cases:
                self.assertIs(function(*args, paper), True)


if __name__ == "__main__":
    unittest.main()
