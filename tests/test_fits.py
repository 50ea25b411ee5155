import unittest

from lutesounds import desk
from tests.helper import BAR, FULL_LUTE, KINDS, as_bytes, equal_frets, instrument, piece


def fits(instrument_text, lines, kind="french"):
    return desk.fits(as_bytes(instrument_text), as_bytes(piece(kind, lines)))


class HowManyNotes(unittest.TestCase):
    def test_each_stop_is_a_note(self):
        lines = [(16, {1: 0, 2: 3, 7: 0}), BAR, (8, {}), (16, {1: 15}), BAR, (4, {c: 0 for c in range(1, 15)})]
        for kind in KINDS:
            self.assertEqual(fits(FULL_LUTE, lines, kind), [18])

    def test_no_stop(self):
        for kind in KINDS:
            self.assertEqual(fits(instrument(), [(16, {}), BAR, (16, {})], kind), [0])

    def test_most_notes(self):
        lines = [(96, {c: 0 for c in range(1, 15)})] * 512
        for kind in KINDS:
            self.assertEqual(fits(FULL_LUTE, lines, kind), [7168])


class WhatDoesNotFit(unittest.TestCase):
    def test_line_and_course(self):
        lute = instrument(equal_frets(3), ["3", "2"], ["1"])
        self.assertEqual(fits(lute, [(16, {1: 4})]), [-3, 0, 1])
        # The line of the kind doesn't count, bars do.
        self.assertEqual(fits(lute, [BAR, (16, {1: 0}), BAR, BAR, (16, {1: 3, 2: 4})]), [-3, 4, 2])
        # Of one line the least course, of several lines the first.
        self.assertEqual(fits(lute, [(16, {}), (16, {1: 1, 2: 9, 3: 9, 8: 0}), (16, {1: 9})]), [-3, 1, 2])
        for kind in KINDS:
            self.assertEqual(fits(lute, [(16, {1: 4, 2: 4, 3: 4})], kind), [-3, 0, 1])

    def test_every_fret(self):
        for count in (0, 1, 7, 14, 15):
            lute = instrument(equal_frets(count), ["1"] * 6)
            for course in range(1, 7):
                for fret in range(16):
                    expected = [1] if fret <= count else [-3, 0, course]
                    self.assertEqual(fits(lute, [(1, {course: fret})]), expected)

    def test_every_course(self):
        for courses, basses in ((1, 0), (1, 13), (6, 0), (6, 8), (5, 2), (14, 0), (8, 3)):
            lute = instrument(equal_frets(2), ["1"] * courses, ["1"] * basses)
            for course in range(1, 15):
                expected = [1] if course <= courses + basses else [-3, 0, course]
                self.assertEqual(fits(lute, [(1, {course: 0})]), expected)

    def test_a_bass_with_a_fret(self):
        lute = instrument(equal_frets(15), ["1"] * 2, ["1"] * 12)
        self.assertEqual(fits(lute, [(1, {2: 15, 3: 0, 14: 0})]), [3])
        for course in range(3, 7):
            for fret in range(1, 16):
                self.assertEqual(fits(lute, [(1, {course: fret})]), [-3, 0, course])

    def test_no_fret(self):
        lute = instrument([], ["1"] * 6)
        self.assertEqual(fits(lute, [(1, {c: 0 for c in range(1, 7)})]), [6])
        self.assertEqual(fits(lute, [(1, {3: 1})]), [-3, 0, 3])

    def test_note_answers_the_number_alone(self):
        i = as_bytes(instrument())
        t = as_bytes(piece("german", [(1, {1: 0}), (1, {1: 1})]))
        self.assertEqual(desk.fits(i, t), [-3, 1, 1])
        self.assertEqual(desk.note(0, 0, i, t), [-3])
