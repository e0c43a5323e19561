import itertools
import random
import unittest

from helpers import (every_presentation, every_row_of, is_plain_integer, odd_values, plain_word, raised,
                     some_presentation, triangle, unchanged)
from polychains.errors import Malformed, NoText, Refused
from polychains.pres import Presentation, read_presentation


def commuting(primes):
    """The arguments of the presentation in which all generators commute and all powers are 1."""
    n = len(primes)
    unit = [tuple(1 if at == i else 0 for at in range(n)) for i in range(n)]
    return primes, ((0,) * n,) * n, tuple(tuple(unit[i + 1:]) for i in range(n))


TRIPLE = ((2, 3, 5), ((0, 1, 4), (0, 0, 2), (0, 0, 0)), (((0, 2, 1), (0, 0, 4)), ((0, 0, 3),), ()))


def is_right_side(value, primes, i):
    return (isinstance(value, tuple) and len(value) == len(primes)
            and all(is_plain_integer(item) and 0 <= item < p for item, p in zip(value, primes))
            and not any(value[:i + 1]))


def is_well_formed(primes, powers, conjugates):
    if not isinstance(primes, tuple):
        return False
    if not all(is_plain_integer(p) and p in (2, 3, 5, 7, 11, 13, 17, 19, 23, 29, 31) for p in primes):
        return False
    n = len(primes)
    return (isinstance(powers, tuple) and len(powers) == n
            and all(is_right_side(row, primes, i) for i, row in enumerate(powers))
            and isinstance(conjugates, tuple) and len(conjugates) == n
            and all(isinstance(rows, tuple) and len(rows) == n - 1 - i for i, rows in enumerate(conjugates))
            and all(is_right_side(row, primes, i) for i, rows in enumerate(conjugates) for row in rows))


def changed(value, path, new):
    """The nested tuples with the item at a path replaced."""
    if not path:
        return new
    at = path[0]
    return value[:at] + (changed(value[at], path[1:], new),) + value[at + 1:]


def paths(value):
    """The paths to all items of nested tuples."""
    yield ()
    if isinstance(value, tuple):
        for at, item in enumerate(value):
            for path in paths(item):
                yield (at, *path)


def item_at(value, path):
    for at in path:
        value = value[at]
    return value


class Making(unittest.TestCase):
    def test_fields(self):
        made = Presentation(*TRIPLE)
        self.assertEqual((made.n, made.primes, made.powers, made.conjugates, made.order), (3, *TRIPLE, 30))
        for field in (made.primes, made.powers, made.conjugates):
            self.assertIsInstance(field, tuple)

    def test_no_generators(self):
        made = Presentation((), (), ())
        self.assertEqual((made.n, made.primes, made.powers, made.conjugates, made.order), (0, (), (), (), 1))

    def test_keywords(self):
        primes, powers, conjugates = TRIPLE
        self.assertEqual(Presentation(conjugates=conjugates, powers=powers, primes=primes), Presentation(*TRIPLE))

    def test_every_right_side_is_taken(self):
        for row in every_row_of((2, 3, 5)):
            for path, i in (((1, 0), 0), ((1, 1), 1), ((1, 2), 2), ((2, 0, 0), 0), ((2, 0, 1), 0), ((2, 1, 0), 1)):
                arguments = changed(TRIPLE, path, row)
                if any(row[:i + 1]):
                    raised(Malformed, Presentation, *arguments)
                else:
                    self.assertEqual(item_at((0, *arguments[1:]), path), row)
                    unchanged(Presentation, *arguments)

    def test_malformed_for_every_value_of_each_argument(self):
        for base in (TRIPLE, commuting((2, 3)), commuting((2,)), ((), (), ())):
            for at in range(3):
                for value in odd_values():
                    self.check(changed(base, (at,), value))

    def test_malformed_for_every_value_of_each_part(self):
        for base in (TRIPLE, commuting((31, 2)), commuting((3,))):
            for path in paths(base):
                if path:
                    for value in (*odd_values(), 4, 5, 30, [*TRIPLE[1]], list(item_at(base, path[:-1]))):
                        self.check(changed(base, path, value))

    def check(self, arguments):
        if is_well_formed(*arguments):
            self.assertEqual(Presentation(*arguments).primes, arguments[0])
        else:
            raised(Malformed, Presentation, *arguments)

    def test_lists_in_place_of_tuples(self):
        primes, powers, conjugates = TRIPLE
        raised(Malformed, Presentation, list(primes), powers, conjugates)
        raised(Malformed, Presentation, primes, list(powers), conjugates)
        raised(Malformed, Presentation, primes, powers, list(conjugates))
        raised(Malformed, Presentation, primes, ([0, 1, 4], *powers[1:]), conjugates)
        raised(Malformed, Presentation, primes, powers, (list(conjugates[0]), *conjugates[1:]))
        raised(Malformed, Presentation, primes, powers, (*conjugates[:2], []))
        raised(Malformed, Presentation, [], (), ())
        raised(Malformed, Presentation, (), [], ())
        raised(Malformed, Presentation, (), (), [])

    def test_booleans_are_no_integers(self):
        primes, powers, conjugates = TRIPLE
        raised(Malformed, Presentation, primes, ((False, 1, 4), *powers[1:]), conjugates)
        raised(Malformed, Presentation, primes, ((0, True, 4), *powers[1:]), conjugates)
        raised(Malformed, Presentation, (True,), ((0,),), ((),))

    def test_too_few_and_too_many_rows(self):
        primes, powers, conjugates = TRIPLE
        raised(Malformed, Presentation, primes, powers[:2], conjugates)
        raised(Malformed, Presentation, primes, powers + ((0, 0, 0),), conjugates)
        raised(Malformed, Presentation, primes, powers, conjugates[:2])
        raised(Malformed, Presentation, primes, powers, conjugates + ((),))
        raised(Malformed, Presentation, primes, powers, (conjugates[0][:1], *conjugates[1:]))
        raised(Malformed, Presentation, primes, powers, (conjugates[0] * 2, *conjugates[1:]))
        raised(Malformed, Presentation, primes, powers, (*conjugates[:2], ((0, 0, 0),)))

    def test_primes_out_of_bounds(self):
        for p in (-2, 0, 1, 4, 9, 37, 41, 10 ** 30):
            raised(Malformed, Presentation, *commuting((p,)))
            raised(Malformed, Presentation, *commuting((2, p)))


class Large(unittest.TestCase):
    def test_order_above_1024(self):
        for primes in ((2,) * 11, (3,) * 11, (2,) * 40, (31, 31, 2), (31, 3, 11, 2), (2,) * 9 + (3,), (29, 31, 2),
                       (5, 5, 5, 3, 3), (31,) * 3):
            self.assertEqual(raised(Refused, Presentation, *commuting(primes)).reason, "large")

    def test_orders_up_to_1024(self):
        for primes, order in (((2,) * 10, 1024), ((31, 31), 961), ((2, 2, 2, 2, 2, 31), 992), ((11, 31, 3), 1023)):
            made = Presentation(*commuting(primes))
            self.assertEqual((made.order, made.n), (order, len(primes)))

    def test_malformed_goes_before_large(self):
        for primes in ((2,) * 11, (31, 31, 2)):
            primes, powers, conjugates = commuting(primes)
            raised(Malformed, Presentation, list(primes), powers, conjugates)
            raised(Malformed, Presentation, primes, powers[1:], conjugates)
            raised(Malformed, Presentation, primes, powers, conjugates[1:])
            raised(Malformed, Presentation, primes, powers[:-1] + ((0,) * (len(primes) - 1) + (1,),), conjugates)
            raised(Malformed, Presentation, primes, powers, conjugates[:-1] + (powers,))
            raised(Malformed, Presentation, primes, powers, (None, *conjugates[1:]))


class Methods(unittest.TestCase):
    def test_is_row_for_every_value(self):
        for base in (TRIPLE, commuting((2, 3)), commuting((2,)), ((), (), ())):
            made = Presentation(*base)
            for value in odd_values():
                expected = (isinstance(value, tuple) and len(value) == made.n
                            and all(is_plain_integer(item) and 0 <= item < p for item, p in zip(value, made.primes)))
                self.assertIs(made.is_row(value), expected, value)

    def test_is_row_at_the_bounds(self):
        made = Presentation(*TRIPLE)
        for row in itertools.product(range(-1, 6), repeat=3):
            self.assertIs(made.is_row(row), row in every_row_of((2, 3, 5)))
            self.assertIs(made.is_row(list(row)), False)
        self.assertIs(made.is_row((True, 0, 0)), False)
        self.assertIs(made.is_row((0, 0)), False)
        self.assertIs(made.is_row((0, 0, 0, 0)), False)
        self.assertIs(Presentation((), (), ()).is_row(()), True)

    def test_conjugate_row(self):
        made = Presentation(*TRIPLE)
        self.assertEqual(made.conjugate_row(0, 1), (0, 2, 1))
        self.assertEqual(made.conjugate_row(0, 2), (0, 0, 4))
        self.assertEqual(made.conjugate_row(1, 2), (0, 0, 3))

    def test_letters(self):
        made = Presentation(*TRIPLE)
        self.assertEqual(made.letters((1, 2, 4)), (1, 2, 2, 3, 3, 3, 3))
        self.assertEqual(made.letters((0, 0, 0)), ())
        for row in every_row_of((2, 3, 5)):
            self.assertEqual(made.letters(row), plain_word(row))
        self.assertEqual(Presentation((), (), ()).letters(()), ())

    def test_equality(self):
        made = Presentation(*TRIPLE)
        self.assertTrue(made == Presentation(*TRIPLE))
        self.assertFalse(made != Presentation(*TRIPLE))
        for path, value in (((1, 0), (0, 1, 3)), ((1, 1), (0, 0, 1)), ((2, 0, 0), (0, 1, 1)), ((2, 1, 0), (0, 0, 1))):
            self.assertFalse(made == Presentation(*changed(TRIPLE, path, value)))
            self.assertTrue(made != Presentation(*changed(TRIPLE, path, value)))
        # All rows are alike here, but not the primes.
        self.assertFalse(Presentation(*commuting((2, 3))) == Presentation(*commuting((3, 3))))
        self.assertFalse(Presentation((), (), ()) == Presentation(*commuting((2,))))

    def test_equality_for_every_value(self):
        for made in (triangle(), Presentation(*TRIPLE), Presentation((), (), ())):
            for value in (*odd_values(), str(made), TRIPLE, made.primes):
                expected = isinstance(value, Presentation) and str(value) == str(made)
                self.assertIs(made == value, expected)
                self.assertIs(made != value, not expected)


class Texts(unittest.TestCase):
    def test_text(self):
        self.assertEqual(str(triangle()), "2 3: 0 0; 0 2; 0 0")
        self.assertEqual(str(Presentation((), (), ())), ":")
        self.assertEqual(str(Presentation((31,), ((0,),), ((),))), "31: 0")
        self.assertEqual(str(Presentation(*TRIPLE)), "2 3 5: 0 1 4; 0 2 1; 0 0 4; 0 0 2; 0 0 3; 0 0 0")

    def presentations(self):
        for primes in ((), (2,), (31,), (2, 2), (3, 2), (2, 11), (2, 2, 2)):
            yield from every_presentation(primes)
        chooser = random.Random(3)
        for primes in ((2, 3, 5), (31, 31), (2,) * 10, (2, 2, 2, 2, 2, 31), (3,) * 6):
            for _ in range(5):
                yield some_presentation(primes, chooser)

    def test_reading_gives_the_presentation_back(self):
        for made in self.presentations():
            text = str(made)
            found = read_presentation(text)
            self.assertEqual((found.primes, found.powers, found.conjugates),
                             (made.primes, made.powers, made.conjugates))
            self.assertEqual((found.n, found.order, str(found)), (made.n, made.order, text))

    def assert_no_text(self, value):
        self.assertEqual(raised(NoText, read_presentation, value).at, 0)

    def test_values_that_are_no_strings(self):
        for value in odd_values():
            if value != ":":
                self.assert_no_text(value)
        self.assert_no_text(["2 3: 0 0; 0 2; 0 0"])

    def test_other_spaces_zeros_and_signs(self):
        text = "2 3: 0 0; 0 2; 0 0"
        for at in range(len(text) + 1):
            for more in (" ", "0", "-", "+", ";", ":", "\n", "\t", "\u00a0", "\u2003", "x", "_", "\u00b2", "\u0663"):
                self.assert_no_text(text[:at] + more + text[at:])
        for at in range(len(text)):
            self.assert_no_text(text[:at])
            self.assert_no_text(text[at + 1:])
            self.assert_no_text(text[:at] + text[at + 1:])
        for other in ("2 3: 0 0; 0 2; 0 \u0660", "\u0662 3: 0 0; 0 2; 0 0", "2 3: 0 0; 0 02; 0 0", "2 3: 0 0; 0 -2; 0 0",
                      "2 3: 0 0; 0 +2; 0 0", "2 03: 0 0; 0 2; 0 0", "2 3: 0 0; 0 2; 0 0;", "2 3: 0 0; 0 2; 0 0; ",
                      "2 3: 0 0; 0 2; 0 0; 0 0", "2 3 : 0 0; 0 2; 0 0", "2 3:0 0; 0 2; 0 0", "2 3: 0 0 ; 0 2; 0 0",
                      "2 3: 0 0;0 2; 0 0", "2 3: 0 0; 0 2 0 0", "2\n3: 0 0; 0 2; 0 0", "2 3: 0 0; 0 2; 0 0\n"):
            self.assert_no_text(other)

    def test_texts_around_the_empty_presentation(self):
        self.assertEqual(read_presentation(":").order, 1)
        for other in ("", " ", " :", ": ", "::", ":;", ": ;", ":0", ": 0", "; :", ":\n", "0:", "2", "2:", "2: ", "2:;"):
            self.assert_no_text(other)

    def test_malformed_presentations(self):
        for other in ("2 3: 0 0; 0 3; 0 0", "2 3: 1 0; 0 2; 0 0", "2 3: 0 0; 1 2; 0 0", "2 3: 0 0; 0 2; 0 1",
                      "2 4: 0 0; 0 2; 0 0", "1: 0", "0: 0", "37: 0", "2 3: 0 0; 0 2", "2 3: 0 0; 0 2 0; 0 0",
                      "2 3: 0 0; 0; 0 0", "2 3: 0 0; ; 0 0", "2 3", "2 3:", "2 99: 0 0; 0 2; 0 0", "True: 0",
                      "2 3: 0 0; 0 " + "9" * 6000 + "; 0 0", "9" * 6000 + ": 0"):
            self.assert_no_text(other)

    def test_large_presentations(self):
        for primes in ((2,) * 11, (31, 31, 2)):
            primes, powers, conjugates = commuting(primes)
            rows = [row for power, more in zip(powers, conjugates) for row in (power, *more)]
            text = " ".join(map(str, primes)) + ":" + ";".join(" " + " ".join(map(str, row)) for row in rows)
            self.assert_no_text(text)
        self.assertEqual(read_presentation(str(Presentation(*commuting((2,) * 10)))).order, 1024)


if __name__ == "__main__":
    unittest.main()
