import time
import unittest

from lutesounds import desk
from tests.helper import BAR, FULL_LUTE, KINDS, as_bytes, equal_frets, instrument, piece
from tests.test_pure import INTERVALS, NO_INTERVALS

UNISON = [0, 0, 0, 0, 1]
OCTAVE = [1, 0, 0, 0, 1]
OCTAVE_DOWN = [-1, 0, 0, 0, 1]
FIFTH = [-1, 1, 0, 0, 1]
EQUAL_FIFTH = [7, 0, 0, 0, 12]

# Courses 1 to 3: an octave, a fifth, the unison; basses 4 and 5: the unison, an octave below.
LUTE = instrument(equal_frets(12), ["2", "2^-1 3", "1"], ["1", "2^-1"])
LINES = [(8, {1: 0, 2: 3}), BAR, (4, {3: 1, 5: 0}), (2, {1: 5}), BAR, (16, {2: 0, 4: 0}), (1, {})]
NO_STOP = [(8, {}), BAR, (4, {})]


def same(ring, lines, others, x=UNISON, lute=LUTE, other=None, kind="french", other_kind="french"):
    return desk.same(ring, as_bytes(lute), as_bytes(piece(kind, lines)),
                     as_bytes(lute if other is None else other), as_bytes(piece(other_kind, others)), x)


class EveryRing(unittest.TestCase):
    def assert_same(self, expected, lines, others, x=UNISON, **rest):
        for ring in range(3):
            self.assertEqual(same(ring, lines, others, x, **rest), [expected], (ring, x))


class OnePiece(EveryRing):
    def test_on_one_instrument(self):
        self.assert_same(1, LINES, LINES)
        for x in INTERVALS:
            self.assert_same(1 if x == UNISON else 0, LINES, LINES, x)

    def test_in_two_kinds(self):
        for kind in KINDS:
            for other_kind in KINDS:
                self.assert_same(1, LINES, LINES, kind=kind, other_kind=other_kind)
                self.assert_same(0, LINES, LINES, OCTAVE, kind=kind, other_kind=other_kind)

    def test_the_strings_length_and_what_is_not_struck_do_not_count(self):
        lines = [(8, {1: 0, 2: 2})]
        other = instrument(equal_frets(3), ["2", "2^-1 3", "7", "5"], ["3"] * 3, length="70000")
        self.assert_same(1, lines, lines, other=other)


class RaisedStrings(EveryRing):
    FRETS = equal_frets(5)

    def assert_raised(self, courses, basses, x, raised_courses, raised_basses):
        lute = instrument(self.FRETS, courses, basses)
        other = instrument(self.FRETS, raised_courses, raised_basses)
        inverse = [-power for power in x[:4]] + x[4:]
        self.assert_same(1, LINES, LINES, x, lute=lute, other=other)
        self.assert_same(1, LINES, LINES, inverse, lute=other, other=lute)
        # The other way round it's lowered, not raised.
        self.assert_same(0, LINES, LINES, x, lute=other, other=lute)
        self.assert_same(0, LINES, LINES, inverse, lute=lute, other=other)
        for wrong in (UNISON, x[:4] + [23], x[:3] + [x[3] - 1] + x[4:], [0, 0, 0, 1, 24]):
            self.assert_same(0, LINES, LINES, wrong, lute=lute, other=other)

    def test_wider_than_the_unison(self):
        self.assert_raised(["2", "2^-1 3", "1"], ["1", "2^-1"], OCTAVE, ["2^2", "3", "2"], ["2", "1"])
        self.assert_raised(["2", "2^-1 3", "1"], ["1", "2^-1"], FIFTH, ["3", "2^-2 3^2", "2^-1 3"],
                           ["2^-1 3", "2^-2 3"])

    def test_narrower_than_the_unison(self):
        self.assert_raised(["2", "2^-1 3", "1"], ["1", "2^-1"], OCTAVE_DOWN, ["1", "2^-2 3", "2^-1"], ["2^-1", "2^-2"])
        self.assert_raised(["2", "2^-1 3", "1"], ["1", "2^-1"], [0, 0, 1, -1, 1],
                           ["2 5 7^-1", "2^-1 3 5 7^-1", "5 7^-1"], ["5 7^-1", "2^-1 5 7^-1"])

    def test_with_d_above_1(self):
        self.assert_raised(["2", "2^-1 3", "1"], ["1", "2^-1"], EQUAL_FIFTH,
                           ["2^19/12", "2^-5/12 3", "2^7/12"], ["2^7/12", "2^-5/12"])
        # 2^1/2 upon 2^1/2 is an octave; parts of 8 and 3 make parts of 24.
        self.assert_raised(["2^1/2", "3^1/4", "1"], ["1", "2^-1/2"], [1, 0, 0, 0, 2],
                           ["2", "2^1/2 3^1/4", "2^1/2"], ["2^1/2", "1"])
        self.assert_raised(["2^1/12", "3^1/4", "1"], ["1", "5^1/8"], [0, 0, 0, -1, 3],
                           ["2^1/12 7^-1/3", "3^1/4 7^-1/3", "7^-1/3"], ["7^-1/3", "5^1/8 7^-1/3"])

    def test_each_string_counts(self):
        courses = ["2^2", "3", "2"]
        basses = ["2", "1"]
        self.assert_same(1, LINES, LINES, OCTAVE, other=instrument(equal_frets(12), courses, basses))
        for k in range(3):
            wrong = courses[:k] + ["5"] + courses[k + 1:]
            self.assert_same(0, LINES, LINES, OCTAVE, other=instrument(equal_frets(12), wrong, basses))
        for k in range(2):
            wrong = basses[:k] + ["5"] + basses[k + 1:]
            self.assert_same(0, LINES, LINES, OCTAVE, other=instrument(equal_frets(12), courses, wrong))

    def test_frets_count(self):
        # The frets are those of the first lute, but fret 3 of course 2 sounds a little higher.
        frets = equal_frets(12)
        other = instrument(frets[:2] + ["2^13/24"] + frets[7:], ["2", "2^-1 3", "1"], ["1", "2^-1"])
        self.assert_same(0, [(8, {2: 3})], [(8, {2: 3})], other=other)
        self.assert_same(1, [(8, {2: 2})], [(8, {2: 2})], other=other)

    def test_one_fret_further_up(self):
        higher = [line if line is BAR else (line[0], {c: f + 2 for c, f in line[1].items()}) for line in
                  [(8, {1: 0, 2: 3}), BAR, (4, {3: 1}), (2, {1: 5})]]
        lower = [line if line is BAR else (line[0], {c: f - 2 for c, f in line[1].items()}) for line in higher]
        self.assert_same(1, lower, higher, [1, 0, 0, 0, 6])
        self.assert_same(1, higher, lower, [-1, 0, 0, 0, 6])
        self.assert_same(0, lower, higher, [-1, 0, 0, 0, 6])
        self.assert_same(0, lower, higher, [1, 0, 0, 0, 12])


class OtherCoursesAndFrets(EveryRing):
    def test_an_octave_stopped_or_open(self):
        self.assert_same(1, [(8, {1: 0}), (4, {1: 0})], [(8, {3: 12}), (4, {3: 12})])
        self.assert_same(1, [(8, {3: 0, 2: 0})], [(8, {4: 0, 2: 0})])
        self.assert_same(1, [(8, {1: 0, 3: 12})], [(8, {3: 12, 1: 0})])
        self.assert_same(0, [(8, {1: 0}), (4, {1: 0})], [(8, {3: 12}), (4, {3: 11})])

    def test_another_lute(self):
        # In the first lute's order of courses, and turned round.
        lute = instrument(["2"], ["1", "3", "5"], ["7"])
        turned = instrument(["2", "2^2"], ["7", "5", "2^-2 3"], ["1"])
        lines = [(8, {1: 0, 2: 0, 3: 0, 4: 0}), (4, {3: 1}), BAR, (2, {2: 0, 4: 0})]
        others = [(8, {4: 0, 3: 2, 2: 0, 1: 0}), (4, {2: 1}), BAR, (2, {3: 2, 1: 0})]
        for kind in KINDS:
            self.assert_same(1, lines, others, lute=lute, other=turned, other_kind=kind)
            self.assert_same(0, lines, others[:-1], lute=lute, other=turned, other_kind=kind)

    def test_another_course_rings_on(self):
        # Course 1 is struck again at 8, so by 1 and 2 its first note ends; on courses 1 and 3 both ring on.
        lines = [(8, {1: 0}), (4, {1: 0})]
        others = [(8, {1: 0}), (4, {3: 12})]
        self.assertEqual([same(ring, lines, others) for ring in range(3)], [[1], [0], [0]])
        # With a bar between, by 2 it ends there anyway.
        lines.insert(1, BAR)
        others.insert(1, BAR)
        self.assertEqual([same(ring, lines, others) for ring in range(3)], [[1], [0], [1]])

    def test_which_of_two_ends_first(self):
        # At each unit as many begin and sound, but the one that began first ends first or last.
        lute = instrument(["2"], ["1", "1"])
        lines = [(1, {1: 0}), (1, {2: 0}), (1, {1: 1})]
        others = [(1, {1: 0}), (1, {2: 0}), (1, {2: 1})]
        self.assertEqual([same(ring, lines, others, lute=lute) for ring in range(3)], [[1], [0], [0]])

    def test_of_one_beginning_which_of_two_ends_first(self):
        # Both begin at once as high, so the scores are one whichever course is struck again.
        lute = instrument(["2"], ["1", "1"])
        for again in (1, 2):
            self.assert_same(1, [(8, {1: 0, 2: 0}), (4, {1: 1})], [(8, {1: 0, 2: 0}), (4, {again: 1})], lute=lute)


class WhatDiffers(EveryRing):
    LINES = [(8, {1: 0, 2: 0}), (4, {3: 0}), (2, {1: 1, 2: 1, 3: 1})]

    def assert_differs(self, others):
        self.assert_same(1, self.LINES, self.LINES)
        self.assert_same(0, self.LINES, others)
        self.assert_same(0, others, self.LINES)
        self.assert_same(1, others, others)

    def test_one_beginning(self):
        self.assert_differs([(4, {}), (8, {1: 0, 2: 0}), (2, {1: 1, 2: 1, 3: 1})])
        self.assert_differs([(8, {1: 0, 2: 0}), (1, {}), (3, {3: 0}), (2, {1: 1, 2: 1, 3: 1})])
        self.assert_differs([(1, {})] + self.LINES)

    def test_how_long_one_sounds(self):
        self.assert_differs([(8, {1: 0, 2: 0}), (4, {3: 0}), (3, {1: 1, 2: 1, 3: 1})])
        self.assert_differs([(8, {1: 0, 2: 0}), (3, {3: 0}), (2, {1: 1, 2: 1, 3: 1})])
        # Course 2 isn't struck again, so it sounds longer.
        lines = [(8, {1: 0, 2: 0}), (4, {2: 1, 3: 0})]
        lute = instrument(["2"], ["2", "1", "2"])
        others = [(8, {1: 0, 2: 0}), (4, {1: 0, 3: 0})]
        self.assertEqual([same(ring, lines, others, lute=lute) for ring in range(3)], [[1], [0], [0]])

    def test_one_interval(self):
        self.assert_differs([(8, {1: 0, 2: 0}), (4, {3: 0}), (2, {1: 1, 2: 1, 3: 2})])
        self.assert_differs([(8, {1: 0, 2: 1}), (4, {3: 0}), (2, {1: 1, 2: 1, 3: 1})])

    def test_intervals_close_to_one_another(self):
        # Less than 2 parts in 10^16 apart, and the pure fifth and the equal one.
        lute = instrument([], ["2^-17/24 3^-29/8 5^-15/4 7^-8/3", "2^-95/23 3^6/23 5^-4 7^-79/23", "2^7/12", "2^-1 3"])
        for one, other in ((1, 2), (3, 4)):
            self.assert_same(0, [(8, {one: 0})], [(8, {other: 0})], lute=lute)
            self.assert_same(0, [(8, {one: 0})], [(8, {one: 0, other: 0})], lute=lute)

    def test_one_note_more(self):
        self.assert_differs([(8, {1: 0, 2: 0, 3: 0}), (4, {3: 0}), (2, {1: 1, 2: 1, 3: 1})])
        self.assert_differs([(8, {1: 0, 2: 0}), (4, {3: 0}), (2, {1: 1, 2: 1, 3: 1}), (1, {1: 0})])
        self.assert_differs([(8, {2: 0}), (4, {3: 0}), (2, {1: 1, 2: 1, 3: 1})])

    def test_one_more_that_is_alike(self):
        # The unison on course 3 and on bass 4: told twice, not once.
        self.assert_same(0, [(8, {3: 0})], [(8, {3: 0, 4: 0})])
        self.assert_same(0, [(8, {3: 0, 4: 0})], [(8, {3: 0})])
        self.assert_same(1, [(8, {3: 0, 4: 0})], [(8, {3: 0, 4: 0})])


class Bars(EveryRing):
    def test_pieces_that_differ_in_their_bars_alone(self):
        without = [(8, {1: 0}), (4, {2: 0}), (2, {1: 1})]
        within = [(8, {1: 0}), BAR, (4, {2: 0}), (2, {1: 1})]
        for lines, others in ((without, within), (within, without)):
            self.assertEqual([same(ring, lines, others) for ring in range(3)], [[1], [1], [0]])

    def test_bars_that_end_nothing(self):
        plain = [(8, {1: 0}), BAR, (4, {2: 0}), (2, {2: 1})]
        barred = [BAR, (8, {1: 0}), BAR, BAR, (4, {2: 0}), BAR, (2, {2: 1}), BAR, BAR]
        self.assert_same(1, plain, barred)
        self.assert_same(1, barred, plain)

    def test_a_bar_that_stands_elsewhere(self):
        lines = [(8, {1: 0}), BAR, (4, {2: 0}), (2, {})]
        others = [(8, {1: 0}), (4, {2: 0}), BAR, (2, {})]
        self.assertEqual([same(ring, lines, others) for ring in range(3)], [[1], [1], [0]])


class NoStop(EveryRing):
    def test_two_without(self):
        for x in INTERVALS + ([99, 0, 0, 0, 1],):
            self.assert_same(1, NO_STOP, NO_STOP, x)
            self.assert_same(1, NO_STOP, [(96, {})], x, other=FULL_LUTE, other_kind="german")

    def test_one_without(self):
        for x in (UNISON, OCTAVE, [-99, 0, 0, 0, 1]):
            self.assert_same(0, NO_STOP, LINES, x)
            self.assert_same(0, LINES, NO_STOP, x)

    def test_what_is_behind_the_last_note(self):
        lines = [(8, {1: 0})]
        others = [(8, {1: 0}), (4, {})]
        self.assertEqual([same(ring, lines, others) for ring in range(3)], [[1], [0], [0]])
        others.insert(1, BAR)
        self.assertEqual([same(ring, lines, others) for ring in range(3)], [[1], [0], [1]])


class LengthsWrittenApart(EveryRing):
    def test_struck_once_for_two_moments(self):
        # By 1 and 2 it rings on through the second moment, by 0 it doesn't.
        lines = [(8, {1: 0}), (8, {})]
        others = [(16, {1: 0})]
        self.assertEqual([same(ring, lines, others) for ring in range(3)], [[0], [1], [1]])
        self.assertEqual([same(ring, others, lines) for ring in range(3)], [[0], [1], [1]])

    def test_a_bar_between_the_two(self):
        self.assertEqual([same(ring, [(8, {1: 0}), BAR, (8, {})], [(16, {1: 0})]) for ring in range(3)],
                         [[0], [1], [0]])

    def test_a_moment_without_a_stop_in_two(self):
        self.assert_same(1, [(8, {1: 0}), (4, {}), (4, {}), (8, {1: 1})], [(8, {1: 0}), (8, {}), (8, {1: 1})])
        self.assert_same(1, [(3, {}), (8, {1: 0})], [(1, {}), (2, {}), (8, {1: 0})])

    def test_while_another_is_struck(self):
        lines = [(8, {1: 0, 2: 0}), (8, {2: 0})]
        others = [(4, {1: 0, 2: 0}), (4, {}), (8, {2: 0})]
        self.assertEqual([same(ring, lines, others) for ring in range(3)], [[0], [1], [1]])


class OutOfBounds(EveryRing):
    def test_powers(self):
        lute = instrument([], ["2^99", "2^-99", "1", "7^50"])
        for course, x in ((1, [1, 0, 0, 0, 1]), (1, [99, 0, 0, 0, 1]), (2, [-1, 0, 0, 0, 1]), (4, [0, 0, 0, 50, 1]),
                          (1, [0, 1, 0, 0, 2]), (2, [-99, 0, 0, 0, 2]), (1, [1, 0, 0, 0, 24])):
            self.assert_same(0, [(8, {course: 0})], [(8, {course: 0})], x, lute=lute)
            for other in (1, 2, 3, 4):
                self.assert_same(0, [(8, {course: 0})], [(8, {other: 0})], x, lute=lute)
        # At the bounds, but within them.
        self.assert_same(1, [(8, {3: 0})], [(8, {1: 0})], [99, 0, 0, 0, 1], lute=lute)
        self.assert_same(1, [(8, {1: 0})], [(8, {3: 0})], [-99, 0, 0, 0, 1], lute=lute)
        self.assert_same(1, [(8, {2: 0})], [(8, {3: 0})], [99, 0, 0, 0, 1], lute=lute)

    def test_d(self):
        lute = instrument([], ["2^1/24", "2^1/23", "1"])
        self.assert_same(0, [(8, {1: 0})], [(8, {1: 0})], [1, 0, 0, 0, 23], lute=lute)
        self.assert_same(0, [(8, {2: 0})], [(8, {1: 0})], [0, 0, 1, 0, 2], lute=lute)
        self.assert_same(1, [(8, {3: 0})], [(8, {1: 0})], [1, 0, 0, 0, 24], lute=lute)

    def test_one_note_of_several(self):
        lute = instrument([], ["2^99", "1", "2"])
        lines = [(8, {2: 0}), (8, {1: 0})]
        self.assert_same(0, lines, [(8, {3: 0}), (8, {1: 0})], OCTAVE, lute=lute)
        self.assert_same(0, lines, [(8, {3: 0}), (8, {})], OCTAVE, lute=lute)
        self.assert_same(0, lines, [(8, {3: 0})], OCTAVE, lute=lute)


class NoInterval(EveryRing):
    def test_refused(self):
        for x in NO_INTERVALS:
            self.assert_same(-1, LINES, LINES, x)
            self.assert_same(-1, NO_STOP, NO_STOP, x)


class InGoodTime(unittest.TestCase):
    def assert_in_time(self, expected, *arguments, **rest):
        for ring in range(3):
            start = time.process_time()
            answer = same(ring, *arguments, **rest)
            self.assertLess(time.process_time() - start, 5)
            self.assertEqual(answer, [expected])

    def test_most_notes(self):
        lines = [(96, {c: (c * k) % 16 if c < 7 else 0 for c in range(1, 15)}) for k in range(512)]
        changed = lines[:-1] + [(96, {c: 0 for c in range(2, 15)})]
        raised = instrument(equal_frets(15), ["2^2 5", "3 5", "5^2", "5 7", "2 5", "5"], ["2^-1 5"] * 8)
        for kind in KINDS:
            self.assert_in_time(1, lines, lines, UNISON, FULL_LUTE, FULL_LUTE, kind)
            self.assert_in_time(1, lines, lines, [0, 0, 1, 0, 1], FULL_LUTE, raised, kind)
            self.assert_in_time(0, lines, changed, UNISON, FULL_LUTE, FULL_LUTE, kind)
            self.assert_in_time(0, lines, lines, [97, -89, 83, -79, 23], FULL_LUTE, FULL_LUTE, kind)

    def test_notes_that_ring_throughout(self):
        lute = instrument([], ["2^97/24", "3^-95/23", "5^89/22", "7^-83/21", "2^79/20 3^-1/20", "3^61/19 5^-1/19", "1",
                               "2", "3", "5", "7", "2^97/17", "3^97/16", "5^-97/13"])
        lines = [(96, {c: 0 for c in range(1, 14)})] + [(96, {14: 0})] * 511
        self.assert_in_time(1, lines, lines, UNISON, lute, lute, "german")
        self.assert_in_time(0, lines, lines, [97, -89, 83, -79, 23], lute, lute, "german")
