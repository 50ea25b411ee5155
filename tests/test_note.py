import unittest

from lutesounds import desk
from tests.helper import BAR, FULL_LUTE, KINDS, as_bytes, equal_frets, instrument, piece

LUTE = instrument(equal_frets(5), ["2^2", "2^-1 3", "2", "5"], ["2^-1", "2"])


def all_notes(instrument_text, lines, ring, kind="french"):
    """What note answers of each note, and that of the next number it answers -4."""
    i = as_bytes(instrument_text)
    t = as_bytes(piece(kind, lines))
    count = desk.fits(i, t)[0]
    assert desk.note(ring, count, i, t) == [-4]
    return [desk.note(ring, k, i, t) for k in range(count)]


def ends(lines, ring):
    return [answer[1] for answer in all_notes(LUTE, lines, ring)]


class TenNumbers(unittest.TestCase):
    def test_each_of_them(self):
        lines = [(16, {}), BAR, (4, {1: 0}), (24, {2: 3}), BAR, (1, {5: 0})]
        for kind in KINDS:
            self.assertEqual(all_notes(LUTE, lines, 0, kind), [
                [16, 20, 2, 1, 0, 2, 0, 0, 0, 1],
                [20, 44, 3, 2, 3, -3, 4, 0, 0, 4],
                [44, 45, 5, 5, 0, -1, 0, 0, 0, 1]])
            self.assertEqual([answer[:2] for answer in all_notes(LUTE, lines, 1, kind)], [[16, 45], [20, 45], [44, 45]])
            self.assertEqual([answer[:2] for answer in all_notes(LUTE, lines, 2, kind)], [[16, 44], [20, 44], [44, 45]])

    def test_moments_begin_where_those_before_end(self):
        lengths = [1, 2, 3, 4, 6, 8, 12, 16, 24, 32, 48, 64, 96]
        answers = all_notes(LUTE, [(length, {3: 0}) for length in lengths], 0)
        self.assertEqual([answer[:3] for answer in answers],
                         [[sum(lengths[:k]), sum(lengths[:k + 1]), k] for k in range(13)])

    def test_longest_piece(self):
        answers = all_notes(LUTE, [(96, {1: 0})] + [(96, {})] * 511, 1)
        self.assertEqual(answers, [[0, 49152, 0, 1, 0, 2, 0, 0, 0, 1]])


class Ringing(unittest.TestCase):
    def test_a_course_struck_again(self):
        lines = [(8, {1: 0, 2: 0}), (16, {2: 1}), (4, {1: 2})]
        # In order: course 2 (the narrower), course 1; course 2; course 1.
        self.assertEqual(ends(lines, 0), [8, 8, 24, 28])
        self.assertEqual(ends(lines, 1), [8, 24, 28, 28])
        self.assertEqual(ends(lines, 2), [8, 24, 28, 28])

    def test_a_course_never_struck_again(self):
        lines = [(8, {1: 0}), (16, {2: 0}), (4, {}), (2, {3: 0})]
        self.assertEqual(ends(lines, 0), [8, 24, 30])
        self.assertEqual(ends(lines, 1), [30, 30, 30])
        self.assertEqual(ends(lines, 2), [30, 30, 30])

    def test_a_bar_between(self):
        lines = [(8, {1: 0}), (16, {2: 0}), BAR, (4, {3: 0}), (2, {1: 1})]
        self.assertEqual(ends(lines, 0), [8, 24, 28, 30])
        self.assertEqual(ends(lines, 1), [28, 30, 30, 30])
        self.assertEqual(ends(lines, 2), [24, 24, 30, 30])

    def test_struck_again_ahead_of_the_bar_or_just_behind_it(self):
        lines = [(8, {1: 0}), (16, {1: 0}), BAR, (4, {1: 0})]
        self.assertEqual(ends(lines, 1), [8, 24, 28])
        self.assertEqual(ends(lines, 2), [8, 24, 28])

    def test_a_bar_right_behind_the_moment(self):
        lines = [(8, {1: 0}), BAR, (16, {2: 0})]
        self.assertEqual(ends(lines, 0), [8, 24])
        self.assertEqual(ends(lines, 1), [24, 24])
        self.assertEqual(ends(lines, 2), [8, 24])

    def test_a_bar_behind_the_last_moment(self):
        lines = [(8, {1: 0}), (16, {2: 0}), BAR]
        for ring, expected in ((0, [8, 24]), (1, [24, 24]), (2, [24, 24])):
            self.assertEqual(ends(lines, ring), expected)

    def test_several_bars_in_a_row(self):
        lines = [BAR, BAR, (8, {1: 0}), (16, {2: 0}), BAR, BAR, BAR, (4, {3: 0}), BAR, BAR]
        self.assertEqual(ends(lines, 0), [8, 24, 28])
        self.assertEqual(ends(lines, 1), [28, 28, 28])
        self.assertEqual(ends(lines, 2), [24, 24, 28])
        self.assertEqual([answer[2] for answer in all_notes(LUTE, lines, 2)], [2, 3, 7])

    def test_a_bar_ahead_of_the_first_moment(self):
        lines = [BAR, (8, {1: 0}), (16, {2: 0})]
        for ring, expected in ((0, [8, 24]), (1, [24, 24]), (2, [24, 24])):
            self.assertEqual(ends(lines, ring), expected)
        self.assertEqual(all_notes(LUTE, lines, 2)[0], [0, 24, 1, 1, 0, 2, 0, 0, 0, 1])

    def test_a_bass_rings_as_a_course(self):
        lines = [(8, {5: 0}), (8, {6: 0}), BAR, (8, {5: 0})]
        self.assertEqual(ends(lines, 0), [8, 16, 24])
        self.assertEqual(ends(lines, 1), [16, 24, 24])
        self.assertEqual(ends(lines, 2), [16, 16, 24])


class Order(unittest.TestCase):
    def test_the_narrower_first(self):
        answers = all_notes(LUTE, [(8, {1: 0, 2: 0, 3: 0, 4: 0, 5: 0})], 0)
        self.assertEqual([answer[3] for answer in answers], [5, 2, 3, 1, 4])

    def test_of_one_interval_by_courses(self):
        lute = instrument(["2"], ["2", "3", "1", "2"], ["1", "3"])
        answers = all_notes(lute, [(8, {1: 0, 2: 0, 3: 1, 4: 0, 5: 0, 6: 0})], 0)
        self.assertEqual([answer[3:] for answer in answers], [
            [5, 0, 0, 0, 0, 0, 1],
            [1, 0, 1, 0, 0, 0, 1], [3, 1, 1, 0, 0, 0, 1], [4, 0, 1, 0, 0, 0, 1],
            [2, 0, 0, 1, 0, 0, 1], [6, 0, 0, 1, 0, 0, 1]])

    def test_beginnings_before_intervals(self):
        answers = all_notes(LUTE, [(1, {4: 0}), (1, {5: 0})], 0)
        self.assertEqual([answer[3] for answer in answers], [4, 5])

    def test_an_interval_close_to_another(self):
        # The pure fifth is wider than the equal one, by less than 2 parts in 1000.
        lute = instrument(["2^7/12"], ["2^-1 3", "1"])
        answers = all_notes(lute, [(8, {1: 0, 2: 1})], 0)
        self.assertEqual([answer[3] for answer in answers], [2, 1])
        # These differ by less than 2 parts in 10^16; the second one is the narrower.
        lute = instrument([], ["2^-17/24 3^-29/8 5^-15/4 7^-8/3", "2^-95/23 3^6/23 5^-4 7^-79/23"])
        answers = all_notes(lute, [(8, {1: 0, 2: 0})], 0)
        self.assertEqual([answer[3] for answer in answers], [2, 1])
        self.assertEqual([answer[5:] for answer in answers], [[-95, 6, -92, -79, 23], [-17, -87, -90, -64, 24]])

    def test_one_chord_in_all_kinds(self):
        lines = [(8, {c: c for c in range(1, 7)} | {c: 0 for c in range(7, 15)})] * 2
        french, italian, german = (all_notes(FULL_LUTE, lines, 1, kind) for kind in KINDS)
        self.assertEqual(french, italian)
        self.assertEqual(french, german)
        self.assertEqual(len(french), 28)


class NoSuchNote(unittest.TestCase):
    def test_number_too_great(self):
        i = as_bytes(LUTE)
        t = as_bytes(piece("german", [(8, {1: 0, 2: 0})]))
        for ring in range(3):
            self.assertEqual(len(desk.note(ring, 1, i, t)), 10)
            for k in (2, 3, 2147483647):
                self.assertEqual(desk.note(ring, k, i, t), [-4])

    def test_piece_without_a_stop(self):
        i = as_bytes(LUTE)
        for kind in KINDS:
            t = as_bytes(piece(kind, [(8, {}), BAR]))
            for ring in range(3):
                self.assertEqual(desk.note(ring, 0, i, t), [-4])
