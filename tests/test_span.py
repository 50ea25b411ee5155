import time
import unittest

from lutesounds import desk
from tests.helper import BAR, FULL_LUTE, GREAT_POWERS, KINDS, as_bytes, equal_frets, instrument, piece

# Courses 1 to 3: an octave, a fifth, the unison; basses 4 and 5: the unison, an octave below.
LUTE = instrument(equal_frets(12), ["2", "2^-1 3", "1"], ["1", "2^-1"])


def span(lines, kind="french", lute=LUTE):
    return desk.span(as_bytes(lute), as_bytes(piece(kind, lines)))


class LowestAndHighest(unittest.TestCase):
    def test_one_note_alone(self):
        for kind in KINDS:
            for stops in ({1: 0}, {3: 12}, {5: 0}):
                self.assertEqual(span([(8, stops)], kind), [0, 0])
                self.assertEqual(span([BAR, (8, {}), BAR, (4, stops), (2, {}), BAR], kind), [0, 0])

    def test_the_lowest_ahead_of_the_highest(self):
        for kind in KINDS:
            self.assertEqual(span([(8, {2: 0}), (8, {5: 0}), BAR, (8, {3: 0}), (8, {1: 0}), (8, {2: 3})], kind), [1, 3])

    def test_the_lowest_behind_the_highest(self):
        for kind in KINDS:
            self.assertEqual(span([(8, {2: 0}), (8, {1: 0}), BAR, (8, {3: 0}), (8, {5: 0}), (8, {2: 3})], kind), [3, 1])

    def test_first_and_last(self):
        self.assertEqual(span([(8, {5: 0}), (8, {3: 0}), (8, {1: 12})]), [0, 2])
        self.assertEqual(span([(8, {1: 12}), (8, {3: 0}), (8, {5: 0})]), [2, 0])

    def test_notes_of_one_beginning(self):
        # In order by intervals, so the lowest is the first of them and the highest the last.
        for kind in KINDS:
            self.assertEqual(span([(8, {1: 0, 2: 0, 3: 0, 5: 0})], kind), [0, 3])
        # Numbers: 0 course 3, 1 course 2; 2 course 5, 3 course 3, 4 course 1; 5 course 2.
        self.assertEqual(span([(8, {2: 0, 3: 0}), (8, {1: 0, 3: 1, 5: 0}), (8, {2: 0})]), [2, 4])

    def test_frets_count(self):
        # Fret 12 of course 3 is course 1's octave; a fret further up is higher.
        lute = instrument(equal_frets(13), ["2", "1"])
        self.assertEqual(span([(8, {2: 1}), (8, {1: 0}), (8, {2: 13}), (8, {2: 0})], lute=lute), [3, 2])

    def test_numbers_of_the_notes_and_not_courses_or_lines(self):
        lines = [BAR, (1, {3: 0}), BAR, (1, {3: 1, 1: 0}), BAR, BAR, (1, {2: 0, 5: 0}), (96, {1: 1})]
        # Numbers: 0; 1, 2; 3 (course 5), 4; 5.
        self.assertEqual(span(lines), [3, 5])


class OfAsLowAndAsHighTheFirst(unittest.TestCase):
    def test_all_of_one_interval(self):
        lute = instrument(["2"], ["2", "1", "2"], ["2"])
        for kind in KINDS:
            for lines in ([(8, {1: 0})] * 3, [(8, {1: 0, 2: 1, 3: 0, 4: 0})], [(8, {4: 0}), BAR, (8, {1: 0, 2: 1})]):
                self.assertEqual(span(lines, kind, lute), [0, 0])

    def test_several_in_several_moments(self):
        lines = [(8, {2: 0}), (8, {1: 0}), (8, {3: 0}), (8, {4: 0}), (8, {3: 12}), (8, {2: 0})]
        self.assertEqual(span(lines), [2, 1])
        self.assertEqual(span(list(reversed(lines))), [2, 1])
        self.assertEqual(span(lines[2:]), [0, 2])

    def test_several_in_one_moment(self):
        # Numbers: 0 course 2; 1 course 3, 2 course 4, 3 course 1, 4 is course 3 again.
        self.assertEqual(span([(8, {2: 0}), (8, {1: 0, 3: 0, 4: 0}), (8, {3: 0})]), [1, 3])
        # Two octaves at once: of the two the one of course 1 is told.
        lute = instrument(equal_frets(12), ["2", "1", "1"])
        self.assertEqual(span([(8, {1: 0, 2: 12, 3: 12}), (8, {2: 0, 3: 0})], lute=lute), [3, 0])
        self.assertEqual(span([(8, {2: 0, 3: 0}), (8, {1: 0, 2: 12, 3: 12})], lute=lute), [0, 2])


class Exactly(unittest.TestCase):
    def test_a_pure_and_an_equal_fifth(self):
        lute = instrument(["2^7/12"], ["2^-1 3", "1"])
        self.assertEqual(span([(8, {1: 0}), (8, {2: 1})], lute=lute), [1, 0])
        self.assertEqual(span([(8, {2: 1}), (8, {1: 0})], lute=lute), [0, 1])

    def test_closer_than_a_float_can_tell(self):
        # These differ by less than 2 parts in 10^16; the second one is the narrower.
        lute = instrument([], ["2^-17/24 3^-29/8 5^-15/4 7^-8/3", "2^-95/23 3^6/23 5^-4 7^-79/23"])
        self.assertEqual(span([(8, {1: 0}), (8, {2: 0})], lute=lute), [1, 0])
        self.assertEqual(span([(8, {2: 0}), (8, {1: 0})], lute=lute), [0, 1])
        self.assertEqual(span([(8, {1: 0, 2: 0})], lute=lute), [0, 1])
        self.assertEqual(span([(8, {1: 0}), (8, {2: 0}), (8, {1: 0}), (8, {2: 0})], lute=lute), [1, 0])

    def test_roots_near_the_unison(self):
        # 2^84 is just below 3^53: the 23rd root is the lower one, and both are below the unison.
        lute = instrument([], ["2^84/23 3^-53/23", "2^7/2 3^-53/24", "1"])
        self.assertEqual(span([(8, {1: 0}), (8, {3: 0}), (8, {2: 0})], lute=lute), [0, 1])
        self.assertEqual(span([(8, {1: 0}), (8, {2: 0})], lute=lute), [0, 1])
        self.assertEqual(span([(8, {2: 0}), (8, {3: 0})], lute=lute), [0, 1])


class NoNote(unittest.TestCase):
    def test_a_piece_without_a_stop(self):
        for kind in KINDS:
            for lines in ([(8, {})], [BAR, (8, {}), BAR, (96, {}), BAR], [(1, {})] * 512):
                self.assertEqual(span(lines, kind), [-5])


class InGoodTime(unittest.TestCase):
    def test_most_notes(self):
        lines = [(96, {c: (c * k) % 16 if c < 7 else 0 for c in range(1, 15)}) for k in range(512)]
        for kind in KINDS:
            start = time.process_time()
            answer = span(lines, kind, FULL_LUTE)
            self.assertLess(time.process_time() - start, 5)
            # The highest is course 4 at fret 12, first in moment 3, of whose 14 notes it is the last.
            self.assertEqual(answer, [0, 14 * 3 + 13])

    def test_intervals_of_great_powers(self):
        lines = [(96, {c: (c * k) % 16 if c < 7 else 0 for c in range(1, 15)}) for k in range(512)]
        start = time.process_time()
        answer = span(lines, "german", GREAT_POWERS)
        self.assertLess(time.process_time() - start, 5)
        i = as_bytes(GREAT_POWERS)
        t = as_bytes(piece("german", lines))
        self.assertEqual(desk.note(0, answer[0], i, t)[3:5], [13, 0])
        self.assertEqual(desk.note(0, answer[1], i, t)[3:5], [14, 0])
