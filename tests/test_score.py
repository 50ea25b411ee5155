import time
import unittest

from lutesounds import desk
from tests.helper import BAR, FULL_LUTE, KINDS, as_bytes, equal_frets, instrument, piece
from tests.test_interval_texts import GOOD

LUTE = instrument(equal_frets(5), ["2^2", "2^-1 3", "2", "5"], ["2^-1", "2"])


def score(ring, lines, kind="french", lute=LUTE):
    """The score's lines; that as many bytes follow as the first number says is checked."""
    answer = desk.score(ring, as_bytes(lute), as_bytes(piece(kind, lines)))
    assert answer[0] == len(answer) - 1, answer
    text = bytes(answer[1:]).decode("ascii")
    assert text == "" or text.endswith("\n"), text
    return text.split("\n")[:-1]


class Lines(unittest.TestCase):
    def test_the_bytes(self):
        i = as_bytes(instrument())
        t = as_bytes("german\nq 5\n")
        for ring in range(3):
            # 0, blank, 1, 6, blank, 1, line feed.
            self.assertEqual(desk.score(ring, i, t), [7, 48, 32, 49, 54, 32, 49, 10])

    def test_each_way_of_ringing(self):
        lines = [(8, {1: 0, 2: 0}), (16, {2: 3}), BAR, (4, {3: 0}), (2, {1: 1})]
        for kind in KINDS:
            self.assertEqual(score(0, lines, kind), [
                "0 8 2^-1 3", "0 8 2^2", "8 16 2^-3/4 3", "24 4 2", "28 2 2^25/12"])
            self.assertEqual(score(1, lines, kind), [
                "0 8 2^-1 3", "0 28 2^2", "8 22 2^-3/4 3", "24 6 2", "28 2 2^25/12"])
            self.assertEqual(score(2, lines, kind), [
                "0 8 2^-1 3", "0 24 2^2", "8 16 2^-3/4 3", "24 6 2", "28 2 2^25/12"])

    def test_units_and_not_the_end(self):
        self.assertEqual(score(0, [(64, {}), (8, {1: 0})]), ["64 8 2^2"])
        self.assertEqual(score(1, [(64, {}), (8, {1: 0}), (4, {})]), ["64 12 2^2"])

    def test_bars_last_nothing(self):
        lines = [BAR, BAR, (8, {1: 0}), BAR, BAR, (4, {}), BAR]
        self.assertEqual([score(ring, lines) for ring in range(3)], [["0 8 2^2"], ["0 12 2^2"], ["0 8 2^2"]])

    def test_numbers_of_one_and_more_digits(self):
        lines = [(1, {3: 0}), (8, {3: 0}), (1, {3: 0}), (96, {3: 0}), (96, {3: 0}), (96, {3: 0})]
        for ring in range(3):
            self.assertEqual(score(ring, lines), ["0 1 2", "1 8 2", "9 1 2", "10 96 2", "106 96 2", "202 96 2"])

    def test_the_longest_piece(self):
        lines = [(96, {1: 0})] + [(96, {})] * 510 + [(96, {2: 0})]
        self.assertEqual(score(0, lines), ["0 96 2^2", "49056 96 2^-1 3"])
        for ring in (1, 2):
            self.assertEqual(score(ring, lines), ["0 49152 2^2", "49056 96 2^-1 3"])
        self.assertEqual(score(1, [(96, {1: 0})] * 105)[-1], "9984 96 2^2")
        self.assertEqual(score(1, [(16, {})] + [(96, {1: 0})] * 105)[-1], "10000 96 2^2")

    def test_a_piece_without_a_stop(self):
        i = as_bytes(LUTE)
        for kind in KINDS:
            for lines in ([(8, {})], [BAR, (8, {}), BAR, (96, {}), BAR], [(1, {})] * 512):
                for ring in range(3):
                    self.assertEqual(desk.score(ring, i, as_bytes(piece(kind, lines))), [0])

    def test_what_the_lines_do_not_tell(self):
        # Neither course nor fret: the octave stopped and the octave's open string are alike.
        lute = instrument(["2"], ["2", "1"], ["2"])
        for ring in range(3):
            for stops in ({1: 0}, {2: 1}, {3: 0}):
                self.assertEqual(score(ring, [(8, stops)], lute=lute), ["0 8 2"])


class Order(unittest.TestCase):
    def test_the_narrower_first(self):
        for ring in range(3):
            self.assertEqual(score(ring, [(8, {1: 0, 2: 0, 3: 0, 4: 0, 5: 0})]),
                             ["0 8 2^-1", "0 8 2^-1 3", "0 8 2", "0 8 2^2", "0 8 5"])

    def test_beginnings_as_numbers_before_intervals(self):
        self.assertEqual(score(0, [(8, {4: 0}), (2, {5: 0}), (96, {3: 0}), (1, {5: 0})]),
                         ["0 8 5", "8 2 2^-1", "10 96 2", "106 1 2^-1"])

    def test_intervals_before_how_long_they_are(self):
        # By 1 the lower one, an octave, sounds longer than two octaves do.
        lines = [(8, {1: 0, 3: 0}), (4, {1: 1})]
        self.assertEqual(score(1, lines), ["0 12 2", "0 8 2^2", "8 4 2^25/12"])
        self.assertEqual(score(1, [(8, {1: 0, 3: 0}), (4, {3: 1})]), ["0 8 2", "0 12 2^2", "8 4 2^13/12"])

    def test_an_interval_close_to_another(self):
        lute = instrument([], ["2^-17/24 3^-29/8 5^-15/4 7^-8/3", "2^-95/23 3^6/23 5^-4 7^-79/23"])
        self.assertEqual(score(0, [(8, {1: 0, 2: 0})], lute=lute),
                         ["0 8 2^-95/23 3^6/23 5^-4 7^-79/23", "0 8 2^-17/24 3^-29/8 5^-15/4 7^-8/3"])
        lute = instrument(["2^7/12"], ["2^-1 3", "1"])
        self.assertEqual(score(0, [(8, {1: 0, 2: 1})], lute=lute), ["0 8 2^7/12", "0 8 2^-1 3"])

    def test_of_one_interval_by_how_long_they_are(self):
        lute = instrument(["2"], ["1", "1", "1"])
        # Whichever course is struck again, the shorter one is told first.
        for again in (1, 2, 3):
            lines = [(8, {1: 0, 2: 0, 3: 0}), (4, {again: 1})]
            self.assertEqual(score(1, lines, lute=lute), ["0 8 1", "0 12 1", "0 12 1", "8 4 2"])
        lines = [(8, {1: 0, 2: 0, 3: 0}), (96, {2: 1}), (4, {3: 1})]
        # 8, 104, 108: as numbers, not as texts.
        self.assertEqual(score(1, lines, lute=lute), ["0 8 1", "0 104 1", "0 108 1", "8 100 2", "104 4 2"])
        lines = [(8, {1: 0, 2: 0}), (1, {1: 1}), (1, {2: 1})]
        self.assertEqual(score(1, lines, lute=lute), ["0 8 1", "0 9 1", "8 2 2", "9 1 2"])

    def test_wholly_alike_ones_are_both_told(self):
        lute = instrument(["2"], ["2", "1"], ["2", "2"])
        for ring in range(3):
            self.assertEqual(score(ring, [(8, {1: 0, 2: 1})], lute=lute), ["0 8 2"] * 2)
            self.assertEqual(score(ring, [(8, {1: 0, 2: 1, 3: 0, 4: 0})], lute=lute), ["0 8 2"] * 4)

    def test_one_piece_in_all_kinds(self):
        lines = [(8, {c: c for c in range(1, 7)} | {c: 0 for c in range(7, 15)}), BAR, (4, {1: 15}), (4, {14: 0})]
        for ring in range(3):
            french, italian, german = (score(ring, lines, kind, FULL_LUTE) for kind in KINDS)
            self.assertEqual(french, italian)
            self.assertEqual(french, german)
            self.assertEqual(len(french), 16)


def sounded(course, fret=None):
    """The interval's text in the score of one note, on a course or on a fret of it."""
    lute = instrument([] if fret is None else [fret], [course])
    lines = score(0, [(1, {1: 0 if fret is None else 1})], lute=lute)
    assert len(lines) == 1 and lines[0].startswith("0 1 "), lines
    return lines[0][4:]


class IntervalsTexts(unittest.TestCase):
    def test_as_they_were_read(self):
        for text in GOOD:
            self.assertEqual(sounded(text), text)

    def test_the_edges(self):
        for text in ("2^99", "2^-99", "3^99", "3^-99", "5^99", "5^-99", "7^99", "7^-99", "2^99 3^99 5^99 7^99",
                     "2^-99 3^-99 5^-99 7^-99", "2^-1/24", "7^1/24", "2^97/24 3^-97/24 5^95/24 7^-95/24",
                     "2^33/8 3^-97/24", "2^-33/8 7^1/24"):
            self.assertEqual(sounded(text), text)

    def test_what_a_fret_makes_of_it(self):
        for course, fret, text in (
                # The unison; a power that is 0, 1 or whole in the end.
                ("2^-1", "2", "1"), ("2^-1/2", "2^1/2", "1"), ("2^1/2", "2^1/2", "2"), ("2^-2", "2", "2^-1"),
                ("2^3", "2^-2 5", "2 5"), ("3^1/2", "2^2 3^-1/2", "2^2"), ("7^-1", "7", "1"), ("3", "2 3^-1 5", "2 5"),
                # Different parts of one d: each in lowest terms by itself.
                ("2^1/2", "3^1/3", "2^1/2 3^1/3"), ("2^1/8", "3^1/3", "2^1/8 3^1/3"), ("2^1/12", "2^1/6", "2^1/4"),
                ("2", "7^1/24", "2 7^1/24"), ("2^-1/2", "5^1/3", "2^-1/2 5^1/3"), ("3^2/3", "3^3/4", "3^17/12"),
                # The order of the factors is that of 2, 3, 5, 7, whichever was told first.
                ("7", "2 5", "2 5 7"), ("5 7", "3", "3 5 7"), ("3^-1 7^-1", "2^3 5^-1", "2^3 3^-1 5^-1 7^-1")):
            self.assertEqual(sounded(course, fret), text)


class InGoodTime(unittest.TestCase):
    def test_most_notes(self):
        lines = [(96, {c: (c * k) % 16 if c < 7 else 0 for c in range(1, 15)}) for k in range(512)]
        for kind in KINDS:
            for ring in range(3):
                start = time.process_time()
                answer = score(ring, lines, kind, FULL_LUTE)
                self.assertLess(time.process_time() - start, 5)
                self.assertEqual(len(answer), 7168)
                self.assertEqual(answer[-14:-6], ["49056 96 2^-1"] * 8)

    def test_notes_that_ring_throughout(self):
        lute = instrument([], ["2^97/24", "3^-95/23", "5^89/22", "7^-83/21", "2^79/20 3^-1/20", "3^61/19 5^-1/19", "1",
                               "2", "3", "5", "7", "2^97/17", "3^97/16", "5^-97/13"])
        lines = [(96, {c: 0 for c in range(1, 14)})] + [(96, {14: 0})] * 511
        for ring, units in ((0, 96), (1, 49152), (2, 49152)):
            start = time.process_time()
            answer = score(ring, lines, "german", lute)
            self.assertLess(time.process_time() - start, 5)
            self.assertEqual(len(answer), 524)
            self.assertEqual(answer[0], f"0 {units} 7^-83/21")
            self.assertEqual(answer[-1], "49056 96 5^-97/13")
