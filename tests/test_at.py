import time
import unittest

from lutesounds import desk
from tests.helper import BAR, FULL_LUTE, KINDS, as_bytes, equal_frets, instrument, piece

LUTE = instrument(equal_frets(5), ["2^2", "2^-1 3", "2", "5"], ["2^-1", "2"])
GREATEST = 2147483647


def at(ring, n, lines, kind="french", lute=LUTE):
    return desk.at(ring, n, as_bytes(lute), as_bytes(piece(kind, lines)))


def through(ring, lines, units, lute=LUTE):
    """The numbers at each of the units; the count ahead of them is checked and left out."""
    answers = [at(ring, n, lines, lute=lute) for n in units]
    assert all(answer[0] == len(answer) - 1 for answer in answers), answers
    return [answer[1:] for answer in answers]


class Edges(unittest.TestCase):
    def test_from_the_beginning_to_before_the_end(self):
        lines = [(4, {}), (8, {1: 0}), (2, {})]
        self.assertEqual(through(0, lines, (0, 3, 4, 5, 11, 12, 13, 14)), [[], [], [0], [0], [0], [], [], []])
        for ring in (1, 2):
            self.assertEqual(through(ring, lines, (3, 4, 11, 12, 13, 14)), [[], [0], [0], [0], [0], []])

    def test_the_piece_s_last_unit_and_its_end(self):
        lines = [(8, {1: 0}), (16, {2: 0, 3: 0})]
        self.assertEqual(through(0, lines, (7, 8, 23, 24)), [[0], [1, 2], [1, 2], []])
        for ring in (1, 2):
            self.assertEqual(through(ring, lines, (7, 8, 23, 24)), [[0], [0, 1, 2], [0, 1, 2], []])

    def test_far_behind_the_end(self):
        for kind in KINDS:
            for ring in range(3):
                for n in (1, 2, 100, 49152, GREATEST - 1, GREATEST):
                    self.assertEqual(at(ring, n, [(1, {1: 0})], kind), [0])

    def test_a_note_of_one_unit(self):
        for ring in range(3):
            self.assertEqual(through(ring, [(1, {1: 0}), (1, {1: 0}), (1, {1: 0})], range(4)), [[0], [1], [2], []])

    def test_a_moment_without_a_stop_between(self):
        lines = [(4, {1: 0}), (4, {}), (4, {1: 0})]
        self.assertEqual(through(0, lines, (3, 4, 7, 8, 11, 12)), [[0], [], [], [1], [1], []])
        self.assertEqual(through(1, lines, (3, 4, 7, 8, 11, 12)), [[0], [0], [0], [1], [1], []])

    def test_a_piece_without_a_stop(self):
        for kind in KINDS:
            for ring in range(3):
                for n in (0, 7, 8, GREATEST):
                    self.assertEqual(at(ring, n, [BAR, (8, {}), BAR], kind), [0])

    def test_the_longest_piece(self):
        lines = [(96, {1: 0})] + [(96, {})] * 511
        self.assertEqual(through(0, lines, (0, 95, 96)), [[0], [0], []])
        for ring in (1, 2):
            self.assertEqual(through(ring, lines, (0, 96, 49151, 49152)), [[0], [0], [0], []])


class Ringing(unittest.TestCase):
    def test_a_course_struck_again(self):
        lines = [(8, {1: 0, 2: 0}), (16, {2: 1}), (4, {1: 2})]
        # Numbers: 0 is course 2 (the narrower), 1 course 1; 2 course 2; 3 course 1.
        units = (0, 7, 8, 23, 24, 27, 28)
        self.assertEqual(through(0, lines, units), [[0, 1], [0, 1], [2], [2], [3], [3], []])
        for ring in (1, 2):
            self.assertEqual(through(ring, lines, units), [[0, 1], [0, 1], [1, 2], [1, 2], [2, 3], [2, 3], []])

    def test_a_bar_between(self):
        lines = [(8, {1: 0}), (16, {2: 0}), BAR, (4, {3: 0}), (2, {1: 1})]
        units = (7, 8, 23, 24, 27, 28, 29, 30)
        self.assertEqual(through(0, lines, units), [[0], [1], [1], [2], [2], [3], [3], []])
        self.assertEqual(through(1, lines, units),
                         [[0], [0, 1], [0, 1], [0, 1, 2], [0, 1, 2], [1, 2, 3], [1, 2, 3], []])
        self.assertEqual(through(2, lines, units), [[0], [0, 1], [0, 1], [2], [2], [2, 3], [2, 3], []])

    def test_a_bar_behind_the_last_moment(self):
        lines = [(8, {1: 0}), (16, {2: 0}), BAR]
        self.assertEqual(through(0, lines, (0, 8, 23, 24)), [[0], [1], [1], []])
        for ring in (1, 2):
            self.assertEqual(through(ring, lines, (0, 8, 23, 24)), [[0], [0, 1], [0, 1], []])

    def test_bars_ahead_and_in_a_row(self):
        lines = [BAR, BAR, (8, {1: 0}), BAR, BAR, (4, {2: 0}), BAR, (4, {})]
        self.assertEqual(through(1, lines, (0, 7, 8, 11, 12, 15, 16)), [[0], [0], [0, 1], [0, 1], [0, 1], [0, 1], []])
        self.assertEqual(through(2, lines, (0, 7, 8, 11, 12, 15, 16)), [[0], [0], [1], [1], [], [], []])

    def test_a_bass_rings_as_a_course(self):
        lines = [(8, {5: 0}), (8, {6: 0}), BAR, (8, {5: 0})]
        self.assertEqual(through(0, lines, (0, 8, 16)), [[0], [1], [2]])
        self.assertEqual(through(1, lines, (0, 8, 16)), [[0], [0, 1], [1, 2]])
        self.assertEqual(through(2, lines, (0, 8, 16)), [[0], [0, 1], [2]])


class Numbers(unittest.TestCase):
    def test_numbers_are_those_in_order(self):
        # In order by intervals: courses 5, 2, 3, 1, 4; then of the second moment 5, 1.
        lines = [(8, {1: 0, 2: 0, 3: 0, 4: 0, 5: 0}), (8, {1: 0, 5: 0})]
        for kind in KINDS:
            self.assertEqual(at(0, 0, lines, kind), [5, 0, 1, 2, 3, 4])
            self.assertEqual(at(0, 8, lines, kind), [2, 5, 6])
            self.assertEqual(at(1, 8, lines, kind), [5, 1, 2, 4, 5, 6])

    def test_every_course_at_once(self):
        chord = (8, {c: 0 for c in range(1, 15)})
        for kind in KINDS:
            for ring in range(3):
                self.assertEqual(at(ring, 9, [chord, BAR, chord], kind, FULL_LUTE), [14] + list(range(14, 28)))

    def test_the_numbers_are_those_note_takes(self):
        lines = [(8, {1: 0, 2: 3}), BAR, (4, {3: 1}), (2, {1: 5}), BAR, (16, {2: 0, 4: 0}), (1, {})]
        i = as_bytes(LUTE)
        t = as_bytes(piece("italian", lines))
        for ring in range(3):
            notes = [desk.note(ring, k, i, t) for k in range(6)]
            for n in range(33):
                numbers = [k for k, answer in enumerate(notes) if answer[0] <= n < answer[1]]
                self.assertEqual(desk.at(ring, n, i, t), [len(numbers)] + numbers)


class InGoodTime(unittest.TestCase):
    def test_most_notes(self):
        lines = [(96, {c: (c * k) % 16 if c < 7 else 0 for c in range(1, 15)}) for k in range(512)]
        for kind in KINDS:
            for ring in range(3):
                start = time.process_time()
                answer = at(ring, 49151, lines, kind, FULL_LUTE)
                self.assertLess(time.process_time() - start, 5)
                self.assertEqual(answer, [14] + list(range(7154, 7168)))

    def test_notes_that_ring_throughout(self):
        chord = {c: 0 for c in range(1, 14)}
        lines = [(96, chord)] + [(96, {14: 0})] * 511
        start = time.process_time()
        answer = at(1, 49151, lines, "french", FULL_LUTE)
        self.assertLess(time.process_time() - start, 5)
        self.assertEqual(answer, [14] + list(range(13)) + [523])
