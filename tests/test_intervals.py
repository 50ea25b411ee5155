import itertools
import math
import unittest
from fractions import Fraction

from lutesounds.intervals import UNISON, is_interval, narrower, ranks, upon

OCTAVE = (1, 0, 0, 0, 1)
FIFTH = (-1, 1, 0, 0, 1)
EQUAL_FIFTH = (7, 0, 0, 0, 12)


class IsInterval(unittest.TestCase):
    def test_bounds_of_the_powers(self):
        for k in range(4):
            for power, answer in ((-100, False), (-99, True), (99, True), (100, False)):
                numbers = [0, 0, 0, 0, 1]
                numbers[k] = power
                self.assertEqual(is_interval(numbers), answer, numbers)

    def test_bounds_of_d(self):
        for d, answer in ((-1, False), (0, False), (1, True), (24, True), (25, False)):
            self.assertEqual(is_interval([1, 0, 0, 0, d]), answer, d)

    def test_common_factor(self):
        self.assertTrue(is_interval([0, 0, 0, 0, 1]))
        self.assertFalse(is_interval([0, 0, 0, 0, 2]))
        self.assertFalse(is_interval([2, 4, -6, 8, 10]))
        self.assertFalse(is_interval([0, 0, 0, 0, 0]))
        self.assertTrue(is_interval([2, 4, -6, 8, 9]))
        self.assertTrue(is_interval([6, 10, 15, 0, 12]))

    def test_how_many_numbers(self):
        self.assertFalse(is_interval([]))
        self.assertFalse(is_interval([1, 0, 0, 1]))
        self.assertFalse(is_interval([1, 0, 0, 0, 0, 1]))


class Upon(unittest.TestCase):
    def test_ratios_multiply(self):
        self.assertEqual(upon(OCTAVE, FIFTH), (0, 1, 0, 0, 1))
        self.assertEqual(upon(FIFTH, FIFTH), (-2, 2, 0, 0, 1))
        self.assertEqual(upon(EQUAL_FIFTH, (5, 0, 0, 0, 12)), OCTAVE)
        self.assertEqual(upon((1, 0, 0, 0, 2), (0, 1, 0, 0, 3)), (3, 2, 0, 0, 6))
        self.assertEqual(upon((1, 2, 3, 4, 5), UNISON), (1, 2, 3, 4, 5))

    def test_inverse_gives_unison(self):
        self.assertEqual(upon((5, -3, 1, -7, 24), (-5, 3, -1, 7, 24)), UNISON)


class Narrower(unittest.TestCase):
    def test_octave_fifth_unison(self):
        self.assertTrue(narrower(UNISON, FIFTH))
        self.assertTrue(narrower(FIFTH, OCTAVE))
        self.assertFalse(narrower(OCTAVE, FIFTH))
        self.assertFalse(narrower(FIFTH, FIFTH))
        self.assertTrue(narrower((-1, 0, 0, 0, 1), UNISON))

    def test_equal_fifth_is_just_narrower_than_the_pure_one(self):
        self.assertTrue(narrower(EQUAL_FIFTH, FIFTH))
        self.assertFalse(narrower(FIFTH, EQUAL_FIFTH))

    def test_closer_than_a_float_can_tell(self):
        # Their ratios differ by less than 2 parts in 10^16.
        x = (-95, 6, -92, -79, 23)
        y = (-17, -87, -90, -64, 24)
        self.assertTrue(narrower(x, y))
        self.assertFalse(narrower(y, x))

    def test_many_parts(self):
        # 2^84 is less than 3^53: the roots come closer to the unison from below.
        self.assertTrue(narrower((84, -53, 0, 0, 23), (84, -53, 0, 0, 24)))
        self.assertTrue(narrower((-84, 53, 0, 0, 24), (-84, 53, 0, 0, 23)))

    def test_against_whole_powers(self):
        some = [(a, b, c, e, d) for a, b, c, e, d in itertools.product(
            (-3, 0, 2), (-1, 0, 1), (-2, 1), (0, 1), (1, 2, 3)) if math.gcd(a, b, c, e, d) == 1]

        def power(x, times):
            ratio = Fraction(1)
            for prime, p in zip((2, 3, 5, 7), x):
                ratio *= Fraction(prime) ** (p * times // x[4])
            return ratio

        for x in some:
            for y in some[::7]:
                both = x[4] * y[4]
                self.assertEqual(narrower(x, y), power(x, both) < power(y, both), (x, y))


class Ranks(unittest.TestCase):
    def test_ranks_rise_with_width(self):
        ranked = ranks([OCTAVE, FIFTH, OCTAVE, UNISON, EQUAL_FIFTH, FIFTH])
        self.assertEqual(ranked, {UNISON: 0, EQUAL_FIFTH: 1, FIFTH: 2, OCTAVE: 3})

    def test_none(self):
        self.assertEqual(ranks([]), {})
