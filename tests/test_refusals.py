import itertools
import unittest

from lutesounds import desk
from tests.helper import BAR, as_bytes, instrument, piece

GOOD_I = as_bytes(instrument())
BAD_I = as_bytes("lute")
GOOD_T = as_bytes(piece("french", [(16, {1: 0})]))
BAD_T = as_bytes("song")
MISFIT_T = as_bytes(piece("french", [(16, {1: 0}), BAR, (16, {2: 0})]))
# An octave: both at once for 16 units, then the lower one again for 32.
PAIR_I = as_bytes(instrument([], ["2", "1"]))
PAIR_T = as_bytes(piece("italian", [(16, {1: 0, 2: 0}), (32, {2: 0})]))
EMPTY_T = as_bytes(piece("french", [(16, {})]))
UNISON = [0, 0, 0, 0, 1]
NO_INTERVAL = [0, 0, 0, 0, 2]
LONG_I = GOOD_I + as_bytes("\n") * (4097 - len(GOOD_I))
LONG_T = GOOD_T + as_bytes("\n") * (65537 - len(GOOD_T))


class TooLong(unittest.TestCase):
    def test_sizes(self):
        self.assertEqual((len(LONG_I), len(LONG_T)), (4097, 65537))
        self.assertEqual(desk.fits(LONG_I, GOOD_T), [-2])
        self.assertEqual(desk.note(0, 0, LONG_I, GOOD_T), [-2])
        self.assertEqual(desk.fits(GOOD_I, LONG_T), [-2])
        self.assertEqual(desk.note(0, 0, GOOD_I, LONG_T), [-2])
        self.assertEqual(desk.fits(LONG_I, LONG_T), [-2])
        for i, t in ((LONG_I, GOOD_T), (GOOD_I, LONG_T), (LONG_I, LONG_T)):
            self.assertEqual(desk.at(0, 0, i, t), [-2])
            self.assertEqual(desk.pure(0, i, t, UNISON), [-2])

    def test_sizes_of_span_and_score(self):
        for i, t in ((LONG_I, GOOD_T), (GOOD_I, LONG_T), (LONG_I, LONG_T), ([0] * 4200, GOOD_T), (GOOD_I, [0] * 66000)):
            self.assertEqual(desk.span(i, t), [-2])
            for ring in range(4):
                self.assertEqual(desk.score(ring, i, t), [-2])

    def test_just_not_too_long_of_span_and_score(self):
        for i, t, answer in ((LONG_I[:-1], GOOD_T, [-6]), (GOOD_I, LONG_T[:-1], [-8]),
                             (LONG_I[:-1], LONG_T[:-1], [-6])):
            self.assertEqual(desk.span(i, t), answer)
            for ring in range(4):
                self.assertEqual(desk.score(ring, i, t), answer)

    def test_just_not_too_long(self):
        self.assertEqual(desk.fits(LONG_I[:-1], GOOD_T), [-6])
        self.assertEqual(desk.note(0, 0, LONG_I[:-1], GOOD_T), [-6])
        self.assertEqual(desk.fits(GOOD_I, LONG_T[:-1]), [-8])
        self.assertEqual(desk.note(0, 0, GOOD_I, LONG_T[:-1]), [-8])
        self.assertEqual((len(LONG_I[:-1]), len(LONG_T[:-1])), (4096, 65536))
        self.assertEqual(desk.at(0, 0, LONG_I[:-1], GOOD_T), [-6])
        self.assertEqual(desk.at(0, 0, GOOD_I, LONG_T[:-1]), [-8])
        self.assertEqual(desk.pure(0, LONG_I[:-1], GOOD_T, UNISON), [-6])
        self.assertEqual(desk.pure(0, GOOD_I, LONG_T[:-1], UNISON), [-8])

    def test_greatest_lists(self):
        self.assertEqual(desk.fits(LONG_I + [10] * (4200 - 4097), LONG_T + [10] * (66000 - 65537)), [-2])
        self.assertEqual(desk.fits(GOOD_I, [0] * 66000), [-2])
        self.assertEqual(desk.fits([255] * 4096, [255] * 65536), [-6])
        self.assertEqual(desk.at(0, 0, GOOD_I, [0] * 66000), [-2])
        self.assertEqual(desk.pure(0, [0] * 4200, GOOD_T, UNISON), [-2])
        self.assertEqual(desk.pure(3, [255] * 4096, [255] * 65536, []), [-6])


class InTheirOrder(unittest.TestCase):
    def test_too_long_before_all_else(self):
        self.assertEqual(desk.fits(BAD_I, LONG_T), [-2])
        self.assertEqual(desk.fits(LONG_I, BAD_T), [-2])
        self.assertEqual(desk.note(3, 9, BAD_I, LONG_T), [-2])
        self.assertEqual(desk.note(3, 9, LONG_I, BAD_T), [-2])

    def test_instrument_before_piece(self):
        self.assertEqual(desk.fits(BAD_I, BAD_T), [-6])
        self.assertEqual(desk.note(3, 9, BAD_I, BAD_T), [-6])
        self.assertEqual(desk.note(3, 0, BAD_I, GOOD_T), [-6])
        self.assertEqual(desk.fits([], []), [-6])

    def test_piece_before_ring(self):
        self.assertEqual(desk.fits(GOOD_I, BAD_T), [-8])
        self.assertEqual(desk.note(3, 9, GOOD_I, BAD_T), [-8])
        self.assertEqual(desk.fits(GOOD_I, []), [-8])

    def test_ring_before_misfit(self):
        self.assertEqual(desk.note(3, 9, GOOD_I, MISFIT_T), [-1])
        self.assertEqual(desk.note(2147483647, 0, GOOD_I, MISFIT_T), [-1])

    def test_ring_before_number(self):
        self.assertEqual(desk.note(3, 9, GOOD_I, GOOD_T), [-1])
        self.assertEqual(desk.note(3, 0, GOOD_I, EMPTY_T), [-1])

    def test_misfit_before_number(self):
        self.assertEqual(desk.note(2, 9, GOOD_I, MISFIT_T), [-3])
        self.assertEqual(desk.note(2, 0, GOOD_I, MISFIT_T), [-3])
        self.assertEqual(desk.fits(GOOD_I, MISFIT_T), [-3, 2, 2])

    def test_number_last(self):
        self.assertEqual(desk.note(2, 1, GOOD_I, GOOD_T), [-4])
        self.assertEqual(desk.note(2, 0, GOOD_I, EMPTY_T), [-4])

    def test_ring_alone(self):
        for ring in (3, 4, 2147483647):
            self.assertEqual(desk.note(ring, 0, GOOD_I, GOOD_T), [-1])
        for ring in (0, 1, 2):
            self.assertEqual(desk.note(ring, 0, GOOD_I, GOOD_T), [0, 16, 0, 1, 0, 0, 0, 0, 0, 1])


class InTheirOrderOfAtAndPure(unittest.TestCase):
    def assert_answers(self, answer, ring, i, t, x=UNISON):
        for n in (0, 16, 2147483647):
            self.assertEqual(desk.at(ring, n, i, t), [answer])
        self.assertEqual(desk.pure(ring, i, t, x), [answer])

    def test_too_long_before_all_else(self):
        for ring in (0, 3):
            for x in (UNISON, NO_INTERVAL):
                self.assert_answers(-2, ring, BAD_I, LONG_T, x)
                self.assert_answers(-2, ring, LONG_I, BAD_T, x)
                self.assert_answers(-2, ring, LONG_I, MISFIT_T, x)

    def test_instrument_before_piece(self):
        for ring in (0, 3):
            for x in (UNISON, NO_INTERVAL):
                self.assert_answers(-6, ring, BAD_I, BAD_T, x)
                self.assert_answers(-6, ring, BAD_I, GOOD_T, x)
                self.assert_answers(-6, ring, [], [], x)

    def test_piece_before_ring_and_interval(self):
        for ring in (0, 3, 2147483647):
            for x in (UNISON, NO_INTERVAL, []):
                self.assert_answers(-8, ring, GOOD_I, BAD_T, x)
                self.assert_answers(-8, ring, GOOD_I, [], x)

    def test_ring_and_interval_before_misfit(self):
        for ring in (3, 4, 2147483647):
            for t in (MISFIT_T, GOOD_T, EMPTY_T):
                self.assert_answers(-1, ring, GOOD_I, t)
                self.assert_answers(-1, ring, GOOD_I, t, NO_INTERVAL)
        for ring in range(3):
            for x in (NO_INTERVAL, [], [0] * 8, [1, 0, 0, 0, 0]):
                for t in (MISFIT_T, GOOD_T, EMPTY_T):
                    self.assertEqual(desk.pure(ring, GOOD_I, t, x), [-1])

    def test_misfit_is_a_number_alone(self):
        for ring in range(3):
            self.assert_answers(-3, ring, GOOD_I, MISFIT_T)

    def test_nothing_to_refuse(self):
        for ring in range(3):
            self.assertEqual(desk.at(ring, 0, GOOD_I, GOOD_T), [1, 0])
            self.assertEqual(desk.at(ring, 0, GOOD_I, EMPTY_T), [0])
            self.assertEqual(desk.pure(ring, GOOD_I, GOOD_T, UNISON), [0])
            self.assertEqual(desk.pure(ring, GOOD_I, EMPTY_T, UNISON), [0])


class InTheirOrderOfSpanAndScore(unittest.TestCase):
    def assert_answers(self, answer, ring, i, t):
        self.assertEqual(desk.span(i, t), [answer])
        self.assertEqual(desk.score(ring, i, t), [answer])

    def test_too_long_before_all_else(self):
        for ring in (0, 3):
            self.assert_answers(-2, ring, BAD_I, LONG_T)
            self.assert_answers(-2, ring, LONG_I, BAD_T)
            self.assert_answers(-2, ring, LONG_I, MISFIT_T)
            self.assert_answers(-2, ring, LONG_I, EMPTY_T)

    def test_instrument_before_piece(self):
        for ring in (0, 3):
            for t in (BAD_T, GOOD_T, MISFIT_T, EMPTY_T, []):
                self.assert_answers(-6, ring, BAD_I, t)
                self.assert_answers(-6, ring, [], t)

    def test_piece_before_ring(self):
        for ring in (0, 3, 2147483647):
            self.assert_answers(-8, ring, GOOD_I, BAD_T)
            self.assert_answers(-8, ring, GOOD_I, [])

    def test_ring_before_misfit(self):
        for ring in (3, 4, 2147483647):
            for t in (MISFIT_T, GOOD_T, EMPTY_T):
                self.assertEqual(desk.score(ring, GOOD_I, t), [-1])

    def test_misfit_is_a_number_alone(self):
        for ring in range(3):
            self.assert_answers(-3, ring, GOOD_I, MISFIT_T)

    def test_no_note_is_refused_by_span_alone(self):
        self.assertEqual(desk.span(GOOD_I, EMPTY_T), [-5])
        for ring in range(3):
            self.assertEqual(desk.score(ring, GOOD_I, EMPTY_T), [0])

    def test_nothing_to_refuse(self):
        self.assertEqual(desk.span(GOOD_I, GOOD_T), [0, 0])
        self.assertEqual(desk.span(PAIR_I, PAIR_T), [0, 1])
        for ring in range(3):
            self.assertEqual(desk.score(ring, GOOD_I, GOOD_T), [7] + as_bytes("0 16 1\n"))


class InTheirOrderOfSame(unittest.TestCase):
    def test_each_refusal_alone(self):
        for ring in range(3):
            for i, t, j, u, x, answer in (
                    (LONG_I, GOOD_T, GOOD_I, GOOD_T, UNISON, -2), (GOOD_I, LONG_T, GOOD_I, GOOD_T, UNISON, -2),
                    (GOOD_I, GOOD_T, LONG_I, GOOD_T, UNISON, -2), (GOOD_I, GOOD_T, GOOD_I, LONG_T, UNISON, -2),
                    (LONG_I[:-1], GOOD_T, GOOD_I, GOOD_T, UNISON, -6),
                    (GOOD_I, LONG_T[:-1], GOOD_I, GOOD_T, UNISON, -8),
                    (GOOD_I, GOOD_T, LONG_I[:-1], GOOD_T, UNISON, -9),
                    (GOOD_I, GOOD_T, GOOD_I, LONG_T[:-1], UNISON, -10),
                    (GOOD_I, GOOD_T, GOOD_I, GOOD_T, NO_INTERVAL, -1), (GOOD_I, GOOD_T, GOOD_I, GOOD_T, [], -1),
                    (GOOD_I, MISFIT_T, GOOD_I, GOOD_T, UNISON, -3), (GOOD_I, GOOD_T, GOOD_I, MISFIT_T, UNISON, -3),
                    (GOOD_I, MISFIT_T, GOOD_I, MISFIT_T, UNISON, -3)):
                self.assertEqual(desk.same(ring, i, t, j, u, x), [answer])
        for ring in (3, 4, 2147483647):
            self.assertEqual(desk.same(ring, GOOD_I, GOOD_T, GOOD_I, GOOD_T, UNISON), [-1])

    def test_each_piece_is_fitted_to_its_own_instrument(self):
        # MISFIT_T needs two courses, which PAIR_I has.
        for ring in range(3):
            self.assertEqual(desk.same(ring, PAIR_I, MISFIT_T, GOOD_I, GOOD_T, UNISON), [0])
            self.assertEqual(desk.same(ring, GOOD_I, GOOD_T, PAIR_I, MISFIT_T, UNISON), [0])
            self.assertEqual(desk.same(ring, GOOD_I, MISFIT_T, PAIR_I, GOOD_T, UNISON), [-3])
            self.assertEqual(desk.same(ring, PAIR_I, GOOD_T, GOOD_I, MISFIT_T, UNISON), [-3])
            # Nor do scores that can't be one settle it ahead of that.
            self.assertEqual(desk.same(ring, GOOD_I, EMPTY_T, GOOD_I, MISFIT_T, UNISON), [-3])
            self.assertEqual(desk.same(ring, GOOD_I, MISFIT_T, GOOD_I, EMPTY_T, UNISON), [-3])

    def test_all_together(self):
        """Each text good, too long, or wrong, in every way: the first refusal by the document's order is told."""
        instruments = (GOOD_I, LONG_I, BAD_I)
        pieces = (GOOD_T, LONG_T, BAD_T, MISFIT_T, EMPTY_T)
        told = {}
        for i, t, j, u in itertools.product(instruments, pieces, instruments, pieces):
            for ring, x in ((0, UNISON), (2, [1, 0, 0, 0, 1]), (3, UNISON), (1, NO_INTERVAL), (2147483647, [])):
                reasons = ((-2, i is LONG_I or j is LONG_I or t is LONG_T or u is LONG_T), (-6, i is BAD_I),
                           (-8, t is BAD_T), (-9, j is BAD_I), (-10, u is BAD_T),
                           (-1, ring > 2 or x in (NO_INTERVAL, [])), (-3, t is MISFIT_T or u is MISFIT_T))
                expected = next((answer for answer, holds in reasons if holds), None)
                answer = desk.same(ring, i, t, j, u, x)
                told[expected] = told.get(expected, 0) + 1
                if expected is None:
                    self.assertEqual(answer, [int(t is u and (t is EMPTY_T or x == UNISON))])
                else:
                    self.assertEqual(answer, [expected])
        self.assertEqual(set(told), {None, -1, -2, -3, -6, -8, -9, -10})

    def test_greatest_lists(self):
        self.assertEqual(desk.same(9, [0] * 4200, [0] * 66000, [0] * 4200, [0] * 66000, [0] * 8), [-2])
        self.assertEqual(desk.same(9, [255] * 4096, [255] * 65536, [255] * 4096, [255] * 65536, [0] * 8), [-6])
        self.assertEqual(desk.same(9, [], [], [], [], []), [-6])
        self.assertEqual(desk.same(9, GOOD_I, GOOD_T, [], [], []), [-9])
        self.assertEqual(desk.same(9, GOOD_I, GOOD_T, GOOD_I, [], []), [-10])


class NothingKept(unittest.TestCase):
    def test_what_is_handed_in_stays(self):
        for i in (GOOD_I, BAD_I, LONG_I):
            for t in (GOOD_T, BAD_T, MISFIT_T, EMPTY_T, LONG_T):
                mine = (list(i), list(t))
                desk.fits(mine[0], mine[1])
                for ring in range(4):
                    for k in range(2):
                        desk.note(ring, k, mine[0], mine[1])
                self.assertEqual(mine, (i, t))

    def test_what_is_handed_to_at_and_pure_stays(self):
        for i in (PAIR_I, BAD_I, LONG_I):
            for t in (PAIR_T, BAD_T, MISFIT_T, EMPTY_T, LONG_T):
                for x in (UNISON, NO_INTERVAL, [1, 0, 0, 0, 1], [], [7] * 8):
                    mine = (list(i), list(t), list(x))
                    for ring in range(4):
                        desk.at(ring, 20, mine[0], mine[1])
                        desk.pure(ring, mine[0], mine[1], mine[2])
                    self.assertEqual(mine, (i, t, x))

    def test_at_and_pure_answer_as_the_first_time(self):
        calls = [(ring, i, t, x) for i in (PAIR_I, GOOD_I, BAD_I) for t in (PAIR_T, BAD_T, MISFIT_T, EMPTY_T)
                 for ring in range(4) for x in (UNISON, [1, 0, 0, 0, 1], NO_INTERVAL)]
        first = [(desk.pure(*call), desk.at(call[0], 20, call[1], call[2])) for call in calls]
        second = [(desk.pure(*call), desk.at(call[0], 20, call[1], call[2])) for call in reversed(calls)]
        self.assertEqual(first, list(reversed(second)))
        self.assertEqual(desk.at(1, 20, PAIR_I, PAIR_T), [2, 1, 2])
        self.assertEqual(desk.pure(1, PAIR_I, PAIR_T, [1, 0, 0, 0, 1]), [48])

    def test_what_is_handed_to_span_and_score_stays(self):
        for i in (PAIR_I, BAD_I, LONG_I):
            for t in (PAIR_T, BAD_T, MISFIT_T, EMPTY_T, LONG_T):
                mine = (list(i), list(t))
                desk.span(mine[0], mine[1])
                for ring in range(4):
                    desk.score(ring, mine[0], mine[1])
                self.assertEqual(mine, (i, t))

    def test_span_and_score_answer_as_the_first_time(self):
        calls = [(ring, i, t) for i in (PAIR_I, GOOD_I, BAD_I) for t in (PAIR_T, GOOD_T, BAD_T, MISFIT_T, EMPTY_T)
                 for ring in range(4)]
        first = [(desk.score(*call), desk.span(*call[1:])) for call in calls]
        second = [(desk.score(*call), desk.span(*call[1:])) for call in reversed(calls)]
        self.assertEqual(first, list(reversed(second)))
        self.assertEqual(desk.score(1, PAIR_I, PAIR_T), [22] + as_bytes("0 16 1\n0 48 2\n16 32 1\n"))

    def test_a_second_call_answers_as_the_first(self):
        calls = [(ring, k, i, t) for i in (GOOD_I, BAD_I) for t in (GOOD_T, BAD_T, MISFIT_T, EMPTY_T)
                 for ring in range(4) for k in range(2)]
        first = [(desk.note(*call), desk.fits(call[2], call[3])) for call in calls]
        second = [(desk.note(*call), desk.fits(call[2], call[3])) for call in reversed(calls)]
        self.assertEqual(first, list(reversed(second)))

    def test_an_answer_is_the_callers_own(self):
        for call in (lambda: desk.note(0, 0, GOOD_I, GOOD_T), lambda: desk.fits(GOOD_I, GOOD_T),
                     lambda: desk.fits(GOOD_I, MISFIT_T), lambda: desk.fits(BAD_I, GOOD_T),
                     lambda: desk.at(0, 0, PAIR_I, PAIR_T), lambda: desk.at(0, 99, PAIR_I, PAIR_T),
                     lambda: desk.pure(0, PAIR_I, PAIR_T, UNISON), lambda: desk.pure(3, PAIR_I, PAIR_T, UNISON),
                     lambda: desk.span(PAIR_I, PAIR_T), lambda: desk.span(PAIR_I, EMPTY_T),
                     lambda: desk.score(0, PAIR_I, PAIR_T), lambda: desk.score(0, PAIR_I, EMPTY_T)):
            answer = call()
            before = list(answer)
            answer.append(7)
            answer[0] = 99
            self.assertEqual(call(), before)

    def test_kinds_of_the_answers(self):
        for answer in (desk.note(0, 0, GOOD_I, GOOD_T), desk.note(0, 5, GOOD_I, GOOD_T), desk.fits(GOOD_I, GOOD_T),
                       desk.fits(GOOD_I, MISFIT_T), desk.fits(BAD_I, GOOD_T), desk.at(0, 0, PAIR_I, PAIR_T),
                       desk.at(0, 99, PAIR_I, PAIR_T), desk.at(3, 0, PAIR_I, PAIR_T),
                       desk.pure(0, PAIR_I, PAIR_T, UNISON), desk.pure(1, PAIR_I, PAIR_T, [1, 0, 0, 0, 1]),
                       desk.pure(0, PAIR_I, PAIR_T, []), desk.span(PAIR_I, PAIR_T), desk.span(PAIR_I, EMPTY_T),
                       desk.score(0, PAIR_I, PAIR_T), desk.score(0, PAIR_I, EMPTY_T), desk.score(3, PAIR_I, PAIR_T)):
            self.assertIs(type(answer), list)
            self.assertEqual({type(number) for number in answer}, {int})

    def test_arguments_by_their_names(self):
        self.assertEqual(desk.fits(i=GOOD_I, t=GOOD_T), [1])
        self.assertEqual(desk.note(ring=0, k=0, i=GOOD_I, t=GOOD_T), desk.note(0, 0, GOOD_I, GOOD_T))
        self.assertEqual(desk.at(ring=0, n=20, i=PAIR_I, t=PAIR_T), [1, 2])
        self.assertEqual(desk.pure(ring=0, i=PAIR_I, t=PAIR_T, x=[1, 0, 0, 0, 1]), [16])
        self.assertEqual(desk.span(i=PAIR_I, t=PAIR_T), [0, 1])
        self.assertEqual(desk.score(ring=0, i=GOOD_I, t=GOOD_T), [7] + as_bytes("0 16 1\n"))
