import itertools
import random
import unittest

from helpers import (every_presentation, every_row_of, is_plain_integer, odd_values, plain_overlaps, plain_word,
                     plainly_collected, raised, some_presentation, triangle, unchanged)
from polychains.collect import collected, failing_overlap, is_consistent, overlaps, product
from polychains.errors import Malformed
from polychains.pres import Presentation

EMPTY = Presentation((), (), ())
# The last item of each row does not fit: most overlaps fail.
CROOKED = Presentation((2, 3, 5), ((0, 1, 4), (0, 0, 2), (0, 0, 0)), (((0, 2, 1), (0, 0, 4)), ((0, 0, 3),), ()))


def mixed_presentations():
    """Presentations of many forms, few of them consistent."""
    chooser = random.Random(5)
    for primes in ((2, 3, 5), (3, 2, 2), (31, 31), (7, 2, 3), (2, 2, 2, 2), (3, 3, 3, 3), (5, 2, 2, 2, 3)):
        for _ in range(12):
            yield some_presentation(primes, chooser)


class Collecting(unittest.TestCase):
    def test_step_by_step_in_the_triangle(self):
        for word, row in (((), (0, 0)), ((1,), (1, 0)), ((2,), (0, 1)), ((1, 2), (1, 1)), ((2, 1), (1, 2)),
                          ((2, 2, 1), (1, 1)), ((1, 1), (0, 0)), ((2, 2, 2), (0, 0)), ((1, 2, 1), (0, 2)),
                          ((1, 2, 1, 2), (0, 0))):
            self.assertEqual(collected(triangle(), word), row)
            self.assertEqual(collected(triangle(), list(word)), row)

    def test_step_by_step_where_it_is_not_consistent(self):
        # g_1 g_0 = g_0 w_01; g_2 g_0 = g_0 w_02; g_0 g_0 = w_0, also with letters behind the first one.
        for word, row in (((2, 1), (1, 2, 1)), ((3, 1), (1, 0, 4)), ((3, 2), (0, 1, 3)), ((1, 1), (0, 1, 4)),
                          ((2, 2, 2), (0, 0, 2)), ((3,) * 5, (0, 0, 0)),
                          # w_0, then w_01: g_1 g_2^4 g_1^2 g_2 = g_2^2 g_2^(4 * 9 + 1)
                          ((1, 2, 1), (0, 0, 4)),
                          # w_1, then w_12 in the place of g_2
                          ((2, 2, 3, 2), (0, 0, 0))):
            self.assertEqual(collected(CROOKED, word), row, word)
            self.assertEqual(plainly_collected(CROOKED, word), row, word)

    def test_all_short_words(self):
        for primes, most in (((2, 2), 6), ((3, 2), 6), ((2, 3), 6), ((2, 2, 2), 4)):
            for made in every_presentation(primes):
                for many in range(most + 1):
                    for word in itertools.product(range(1, len(primes) + 1), repeat=many):
                        self.assertEqual(collected(made, word), plainly_collected(made, word))

    def test_words_of_mixed_presentations(self):
        chooser = random.Random(6)
        for made in mixed_presentations():
            for many in (1, 2, 5, 12, 25):
                word = [chooser.randrange(made.n) + 1 for _ in range(many)]
                self.assertEqual(unchanged(collected, made, word), plainly_collected(made, word))

    def test_normal_words_are_collected_already(self):
        for made in (triangle(), CROOKED):
            for row in every_row_of(made.primes):
                self.assertEqual(collected(made, made.letters(row)), row)

    def test_empty_word(self):
        for made in (EMPTY, triangle(), CROOKED):
            for word in ((), []):
                self.assertEqual(collected(made, word), (0,) * made.n)

    def test_products(self):
        for made in (triangle(), CROOKED, some_presentation((3, 2, 5), random.Random(8))):
            for x in every_row_of(made.primes):
                for y in every_row_of(made.primes):
                    self.assertEqual(unchanged(product, made, x, y),
                                     plainly_collected(made, plain_word(x) + plain_word(y)))
        self.assertEqual(product(EMPTY, (), ()), ())

    def test_results_are_rows_of_integers(self):
        for made in (triangle(), CROOKED):
            for word in itertools.product(range(1, made.n + 1), repeat=4):
                self.assertTrue(made.is_row(collected(made, word)))

    def test_malformed_for_every_other_value(self):
        for made in (EMPTY, triangle(), CROOKED):
            for value in odd_values():
                well = (isinstance(value, (list, tuple))
                        and all(is_plain_integer(letter) and 1 <= letter <= made.n for letter in value))
                if well:
                    self.assertEqual(collected(made, value), plainly_collected(made, value))
                else:
                    raised(Malformed, collected, made, value)

    def test_letters_out_of_bounds(self):
        for letter in (0, -1, 3, 4, True, "1", None, (1,), [1]):
            raised(Malformed, collected, triangle(), (letter,))
            raised(Malformed, collected, triangle(), [1, 2, letter, 1])
        raised(Malformed, collected, EMPTY, (1,))
        raised(Malformed, collected, triangle(), "12")

    def test_at_most_1000_letters(self):
        self.assertEqual(collected(triangle(), (2,) * 1000), (0, 1))
        self.assertEqual(collected(triangle(), [1] * 999), (1, 0))
        raised(Malformed, collected, triangle(), (2,) * 1001)
        raised(Malformed, collected, triangle(), [2] * 1001)
        raised(Malformed, collected, EMPTY, (1,) * 2000)

    def test_it_ends_soon_for_full_rows(self):
        # Without keeping what is collected, these take very many steps.
        for primes in ((2,) * 10, (2, 2, 2, 2, 2, 31), (3,) * 6, (31, 31)):
            n = len(primes)
            full = [(0,) * (i + 1) + tuple(p - 1 for p in primes[i + 1:]) for i in range(n)]
            made = Presentation(primes, tuple(full), tuple((full[i],) * (n - i - 1) for i in range(n)))
            word = tuple(n - at % n for at in range(1000))
            self.assertTrue(made.is_row(collected(made, word)))
            self.assertIsNotNone(failing_overlap(made))


class Overlaps(unittest.TestCase):
    def test_the_triangle(self):
        self.assertEqual(overlaps(triangle()), (
            ((2, 2, 2, 1), (1,), (2, 2, 1, 2, 2)),
            ((2, 1, 1), (2,), (1, 2, 2, 1)),
            ((1, 1, 1), (1,), (1,)),
            ((2, 2, 2, 2), (2,), (2,)),
        ))

    def test_three_generators(self):
        made = Presentation((2, 2, 3), ((0, 1, 1), (0, 0, 2), (0, 0, 0)),
                            (((0, 1, 2), (0, 0, 1)), ((0, 0, 2),), ()))
        self.assertEqual(overlaps(made), (
            ((3, 2, 1), (2, 3, 3, 1), (3, 1, 2, 3, 3)),
            ((2, 2, 1), (3, 3, 1), (2, 1, 2, 3, 3)),
            ((3, 3, 3, 1), (1,), (3, 3, 1, 3)),
            ((3, 3, 3, 2), (2,), (3, 3, 2, 3, 3)),
            ((2, 1, 1), (2, 2, 3), (1, 2, 3, 3, 1)),
            ((3, 1, 1), (3, 2, 3), (1, 3, 1)),
            ((3, 2, 2), (3, 3, 3), (2, 3, 3, 2)),
            ((1, 1, 1), (2, 3, 1), (1, 2, 3)),
            ((2, 2, 2), (3, 3, 2), (2, 3, 3)),
            ((3, 3, 3, 3), (3,), (3,)),
        ))

    def test_one_generator_and_none(self):
        self.assertEqual(overlaps(EMPTY), ())
        self.assertEqual(overlaps(Presentation((3,), ((0,),), ((),))), (((1, 1, 1, 1), (1,), (1,)),))

    def test_all_kinds_in_their_order(self):
        for made in (*mixed_presentations(), *every_presentation((2, 2, 2))):
            found = unchanged(overlaps, made)
            self.assertEqual(found, plain_overlaps(made))
            self.assertTrue(all(isinstance(part, tuple) and len(part) == 3 for part in found))
            self.assertTrue(all(isinstance(word, tuple) for part in found for word in part))

    def test_many_generators(self):
        for made in (some_presentation((2,) * 10, random.Random(1)), some_presentation((3, 2, 2, 2, 3), random.Random(2))):
            self.assertEqual(overlaps(made), plain_overlaps(made))
        self.assertEqual(len(overlaps(some_presentation((2,) * 10, random.Random(1)))), 120 + 45 + 45 + 10)


class Consistency(unittest.TestCase):
    def plainly_failing(self, made):
        for word, one, two in plain_overlaps(made):
            if plainly_collected(made, one) != plainly_collected(made, two):
                return word
        return None

    def test_failing_overlap(self):
        seen = {}
        for made in (EMPTY, triangle(), CROOKED, *mixed_presentations(), *every_presentation((2, 3)),
                     *every_presentation((3, 2)), *every_presentation((3, 3)), *every_presentation((2, 2, 2)),
                     *every_presentation((3, 2, 2))):
            expected = self.plainly_failing(made)
            self.assertEqual(failing_overlap(made), expected)
            self.assertIs(is_consistent(made), expected is None)
            seen[expected] = seen.get(expected, 0) + 1
        # All four kinds of overlaps are the first failing one somewhere.
        for word in (None, (3, 2, 1), (2, 2, 1), (2, 1, 1), (1, 1, 1)):
            self.assertIn(word, seen)

    def test_it_is_consistent_exactly_if_collecting_gives_a_group(self):
        for primes in ((2,), (2, 2), (2, 3), (3, 2), (2, 2, 2)):
            for made in every_presentation(primes):
                rows = every_row_of(primes)
                table = {(x, y): plainly_collected(made, plain_word(x) + plain_word(y)) for x in rows for y in rows}
                associative = all(table[table[x, y], z] == table[x, table[y, z]]
                                  for x in rows for y in rows for z in rows)
                self.assertIs(is_consistent(made), associative, str(made))

    def test_some_results(self):
        self.assertIs(is_consistent(triangle()), True)
        self.assertIs(is_consistent(EMPTY), True)
        self.assertIsNone(failing_overlap(EMPTY))
        self.assertIs(is_consistent(CROOKED), False)
        # g_1^g_0 = 1 cannot be: g_1 would be 1.
        self.assertEqual(failing_overlap(Presentation((2, 3), ((0, 0), (0, 0)), (((0, 0),), ()))), (2, 1, 1))
        # The square of g_0 is not left as it is by g_0.
        self.assertEqual(failing_overlap(Presentation((2, 3), ((0, 1), (0, 0)), (((0, 2),), ()))), (1, 1, 1))


if __name__ == "__main__":
    unittest.main()
