import time
import unittest

from lutesounds import desk
from tests.helper import BAR, FULL_LUTE, KINDS, as_bytes, equal_frets, instrument, piece

UNISON = [0, 0, 0, 0, 1]
OCTAVE = [1, 0, 0, 0, 1]
OCTAVE_DOWN = [-1, 0, 0, 0, 1]
FIFTH = [-1, 1, 0, 0, 1]
FIFTH_DOWN = [1, -1, 0, 0, 1]
FOURTH = [2, -1, 0, 0, 1]
EQUAL_FIFTH = [7, 0, 0, 0, 12]
GREATEST = 2147483647
LEAST = -2147483648

# Courses 1 to 3: an octave, a fifth, the unison; basses 4 and 5: the unison, an octave below.
LUTE = instrument(equal_frets(12), ["2", "2^-1 3", "1"], ["1", "2^-1"])


def pure(ring, lines, x, kind="french", lute=LUTE):
    return desk.pure(ring, as_bytes(lute), as_bytes(piece(kind, lines)), x)


class HowFarApart(unittest.TestCase):
    def test_wider_and_narrower(self):
        lines = [(8, {1: 0, 2: 0, 3: 0})]
        for kind in KINDS:
            for ring in range(3):
                for x in (OCTAVE, OCTAVE_DOWN, FIFTH, FIFTH_DOWN, FOURTH, [-2, 1, 0, 0, 1]):
                    self.assertEqual(pure(ring, lines, x, kind), [8], x)
                for x in (UNISON, [0, 1, 0, 0, 1], [2, 0, 0, 0, 1], EQUAL_FIFTH, [0, 0, 1, 0, 1], [0, 0, 0, -1, 1]):
                    self.assertEqual(pure(ring, lines, x, kind), [0], x)

    def test_the_interval_upon_one_that_is_not_the_unison(self):
        # The place of fret 12 on course 1 is two octaves, of course 5 an octave below: three octaves apart.
        lines = [(4, {1: 12, 5: 0})]
        for x in ([3, 0, 0, 0, 1], [-3, 0, 0, 0, 1]):
            self.assertEqual(pure(0, lines, x), [4])
        for x in (OCTAVE, OCTAVE_DOWN, [2, 0, 0, 0, 1], [-2, 0, 0, 0, 1]):
            self.assertEqual(pure(0, lines, x), [0])

    def test_parts(self):
        # Fret 7 of course 3 is an equal fifth, so just not the pure one that course 2 sounds.
        self.assertEqual(pure(0, [(4, {3: 7, 4: 0})], EQUAL_FIFTH), [4])
        self.assertEqual(pure(0, [(4, {3: 7, 4: 0})], [-7, 0, 0, 0, 12]), [4])
        self.assertEqual(pure(0, [(4, {3: 7, 4: 0})], FIFTH), [0])
        self.assertEqual(pure(0, [(4, {2: 7, 3: 0})], [-5, 12, 0, 0, 12]), [4])
        self.assertEqual(pure(0, [(4, {2: 7, 3: 0})], EQUAL_FIFTH), [0])

    def test_parts_that_reduce(self):
        # 2^5/6 upon 2^1/6 is an octave.
        self.assertEqual(pure(0, [(4, {1: 0, 2: 12, 3: 2})], [5, 0, 0, 0, 6]), [4])
        # 2^1/3 upon 2^1/6 is 2^1/2; 2^5/12 upon 2^7/12 is an octave.
        lute = instrument([], ["2^1/6", "2^1/2", "2^7/12", "2"])
        self.assertEqual(pure(0, [(4, {1: 0, 2: 0})], [1, 0, 0, 0, 3], lute=lute), [4])
        self.assertEqual(pure(0, [(4, {3: 0, 4: 0})], [5, 0, 0, 0, 12], lute=lute), [4])
        self.assertEqual(pure(0, [(4, {3: 0, 4: 0})], [-5, 0, 0, 0, 12], lute=lute), [4])

    def test_the_finest_parts(self):
        lute = instrument([], ["2^1/24", "3^1/24", "1", "7^1/23"])
        self.assertEqual(pure(0, [(2, {1: 0, 2: 0})], [-1, 1, 0, 0, 24], lute=lute), [2])
        self.assertEqual(pure(0, [(2, {1: 0, 2: 0})], [1, -1, 0, 0, 24], lute=lute), [2])
        self.assertEqual(pure(0, [(2, {1: 0, 3: 0})], [1, 0, 0, 0, 24], lute=lute), [2])
        # These are apart by what is no interval, so no x tells them apart.
        self.assertEqual(pure(0, [(2, {1: 0, 4: 0})], [0, 0, 0, 1, 23], lute=lute), [0])

    def test_what_is_no_interval_upon_a_note(self):
        # x upon one of them is out of an interval's bounds, upon the other it is not there.
        lute = instrument([], ["2^99", "2^-99", "1"])
        self.assertEqual(pure(0, [(2, {1: 0, 2: 0})], [99, 0, 0, 0, 1], lute=lute), [0])
        self.assertEqual(pure(0, [(2, {1: 0, 3: 0})], [99, 0, 0, 0, 1], lute=lute), [2])
        self.assertEqual(pure(0, [(2, {2: 0, 3: 0})], [-99, 0, 0, 0, 1], lute=lute), [2])

    def test_every_power_counts(self):
        lute = instrument([], ["2^3 3^-4 5^5 7^-6", "1"])
        right = [3, -4, 5, -6, 1]
        self.assertEqual(pure(0, [(2, {1: 0, 2: 0})], right, lute=lute), [2])
        for k in range(4):
            wrong = list(right)
            wrong[k] += 1
            self.assertEqual(pure(0, [(2, {1: 0, 2: 0})], wrong, lute=lute), [0])
        self.assertEqual(pure(0, [(2, {1: 0, 2: 0})], [3, -4, 5, -6, 7], lute=lute), [0])


class TheUnison(unittest.TestCase):
    def test_two_of_one_interval(self):
        self.assertEqual(pure(0, [(8, {3: 0, 4: 0})], UNISON), [8])
        self.assertEqual(pure(0, [(8, {1: 0, 3: 12})], UNISON), [8])

    def test_any_interval(self):
        lute = instrument([], ["7^-5/3"] * 3)
        self.assertEqual(pure(0, [(8, {1: 0, 2: 0}), (4, {1: 0, 3: 0}), (1, {1: 0, 2: 0, 3: 0}), (2, {3: 0})], UNISON,
                              lute=lute), [13])

    def test_never_one_note_alone(self):
        for ring in range(3):
            self.assertEqual(pure(ring, [(8, {3: 0})], UNISON), [0])
            self.assertEqual(pure(ring, [(8, {1: 0, 2: 0, 3: 0})], UNISON), [0])

    def test_one_course_struck_again(self):
        # The note before has ended, so there are never two.
        for ring in range(3):
            self.assertEqual(pure(ring, [(8, {3: 0}), (8, {3: 0}), BAR, (8, {3: 0})], UNISON), [0])


class HowManyUnits(unittest.TestCase):
    def test_notes_that_overlap_in_part(self):
        # By 1 course 1 sounds from 0 to 28, course 3 from 8 to 30: together 20.
        lines = [(8, {1: 0}), (16, {3: 0}), BAR, (4, {}), (2, {1: 1})]
        self.assertEqual(pure(0, lines, OCTAVE), [0])
        self.assertEqual(pure(1, lines, OCTAVE), [20])
        self.assertEqual(pure(2, lines, OCTAVE), [16])

    def test_one_within_another(self):
        lines = [(8, {1: 0}), (16, {3: 0}), (4, {3: 1}), (32, {})]
        for ring, units in ((0, 0), (1, 16), (2, 16)):
            self.assertEqual(pure(ring, lines, OCTAVE), [units])

    def test_apart_in_time(self):
        lines = [(8, {1: 0}), BAR, (8, {3: 0})]
        for ring, units in ((0, 0), (1, 8), (2, 0)):
            self.assertEqual(pure(ring, lines, OCTAVE), [units])
            self.assertEqual(pure(ring, lines, OCTAVE_DOWN), [units])
        # Course 1 is struck again at another fret as course 3 begins.
        for ring in range(3):
            self.assertEqual(pure(ring, [(8, {1: 0}), (8, {1: 1, 3: 0})], OCTAVE), [0])

    def test_several_pairs_at_one_unit(self):
        # Octaves: 1 upon 3, 1 upon 4, 3 upon 5, 4 upon 5.
        lines = [(8, {1: 0, 3: 0, 4: 0, 5: 0}), (2, {1: 0, 3: 0})]
        for x in (OCTAVE, OCTAVE_DOWN):
            self.assertEqual(pure(0, lines, x), [10])
            self.assertEqual(pure(1, lines, x), [10])
        self.assertEqual(pure(0, lines, UNISON), [8])

    def test_several_pairs_that_take_turns(self):
        lines = [(8, {1: 0, 3: 0}), (4, {}), (2, {3: 0, 5: 0}), BAR, (1, {2: 0, 4: 0})]
        self.assertEqual(pure(0, lines, OCTAVE), [10])
        self.assertEqual(pure(1, lines, OCTAVE), [15])
        self.assertEqual(pure(2, lines, OCTAVE), [14])
        self.assertEqual(pure(0, lines, FIFTH), [1])
        self.assertEqual(pure(1, lines, UNISON), [1])

    def test_a_bar_lasts_nothing(self):
        lines = [BAR, (8, {1: 0, 3: 0}), BAR, BAR, (4, {}), BAR]
        for ring, units in ((0, 8), (1, 12), (2, 8)):
            self.assertEqual(pure(ring, lines, OCTAVE), [units])

    def test_till_the_piece_ends(self):
        lines = [(96, {1: 0, 3: 0})] + [(96, {})] * 511
        for ring, units in ((0, 96), (1, 49152), (2, 49152)):
            self.assertEqual(pure(ring, lines, OCTAVE), [units])

    def test_no_stop_and_one_note(self):
        for kind in KINDS:
            for ring in range(3):
                for x in (UNISON, OCTAVE, OCTAVE_DOWN, EQUAL_FIFTH):
                    self.assertEqual(pure(ring, [(8, {}), BAR, (8, {})], x, kind), [0])
                    self.assertEqual(pure(ring, [(8, {1: 0}), BAR, (8, {})], x, kind), [0])


NO_INTERVALS = (
    # How many numbers.
    [], [0], [1], [0, 0, 0, 1], [1, 0, 0, 0], [0, 0, 0, 0, 1, 0], [0, 0, 0, 0, 0, 1], [1, 0, 0, 0, 1, 1, 1, 1],
    # Powers out of their bounds.
    [100, 0, 0, 0, 1], [0, 100, 0, 0, 1], [0, 0, 100, 0, 1], [0, 0, 0, 100, 1],
    [-100, 0, 0, 0, 1], [0, -100, 0, 0, 1], [0, 0, -100, 0, 1], [0, 0, 0, -100, 1],
    [GREATEST, 0, 0, 0, 1], [0, 0, 0, LEAST, 1], [LEAST] * 5, [GREATEST] * 5, [LEAST] * 8, [GREATEST] * 8,
    [LEAST, GREATEST, LEAST, GREATEST, 24],
    # d out of its bounds.
    [1, 0, 0, 0, 0], [0, 0, 0, 0, 0], [1, 0, 0, 0, -1], [0, 0, 0, 0, -1], [1, 0, 0, 0, 25], [1, 0, 0, 0, -24],
    [1, 0, 0, 0, GREATEST], [1, 0, 0, 0, LEAST], [0, 0, 0, 0, GREATEST], [0, 0, 0, 0, LEAST],
    # A common factor.
    [0, 0, 0, 0, 2], [0, 0, 0, 0, 24], [2, 0, 0, 0, 2], [2, 4, -6, 8, 10], [0, -3, 0, 99, 24], [12, 0, 0, 0, 12],
    [-2, 0, 0, 0, 4], [23, 0, 46, 0, 23],
)
INTERVALS = (
    UNISON, [99, 99, 99, 99, 1], [-99, -99, -99, -99, 23], [1, 0, 0, 0, 24], [0, 0, 0, -1, 24],
    [99, -99, 98, 0, 24], [6, 10, 15, 0, 12], [2, 0, 0, 0, 1], [2, 2, 2, 2, 1], [0, 0, -99, 0, 1],
)


class NoInterval(unittest.TestCase):
    def test_refused(self):
        for x in NO_INTERVALS:
            for ring in range(3):
                self.assertEqual(pure(ring, [(8, {1: 0, 3: 0})], x), [-1], x)
            self.assertEqual(pure(0, [(8, {})], x), [-1], x)

    def test_taken(self):
        for x in INTERVALS:
            for ring in range(3):
                self.assertEqual(pure(ring, [(8, {1: 0, 2: 0})], x), [0], x)


class InGoodTime(unittest.TestCase):
    def assert_in_time(self, lines, x, kind, lute, expected):
        for ring in range(3):
            start = time.process_time()
            answer = pure(ring, lines, x, kind, lute)
            self.assertLess(time.process_time() - start, 5)
            self.assertEqual(answer, [expected[ring]])

    def test_most_notes(self):
        lines = [(96, {c: (c * k) % 16 if c < 7 else 0 for c in range(1, 15)}) for k in range(512)]
        for kind in KINDS:
            self.assert_in_time(lines, [97, -89, 83, -79, 23], kind, FULL_LUTE, [0, 0, 0])
            self.assert_in_time(lines, UNISON, kind, FULL_LUTE, [49152] * 3)

    def test_notes_that_ring_throughout(self):
        lute = instrument([], ["2^97/24", "3^-95/23", "5^89/22", "7^-83/21", "2^79/20 3^-1/20", "3^61/19 5^-1/19", "1",
                               "2", "3", "5", "7", "2^97/17", "3^97/16", "5^-97/13"])
        lines = [(96, {c: 0 for c in range(1, 14)})] + [(96, {14: 0})] * 511
        self.assert_in_time(lines, [97, -89, 83, -79, 23], "german", lute, [0, 0, 0])
        self.assert_in_time(lines, FIFTH, "german", lute, [96, 49152, 49152])
