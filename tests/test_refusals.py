import unittest

from lutesounds import desk
from tests.helper import BAR, as_bytes, instrument, piece

GOOD_I = as_bytes(instrument())
BAD_I = as_bytes("lute")
GOOD_T = as_bytes(piece("french", [(16, {1: 0})]))
BAD_T = as_bytes("song")
MISFIT_T = as_bytes(piece("french", [(16, {1: 0}), BAR, (16, {2: 0})]))
EMPTY_T = as_bytes(piece("french", [(16, {})]))
LONG_I = GOOD_I + as_bytes("\n") * (4097 - len(GOOD_I))
LONG_T = GOOD_T + as_bytes("\n") * (65537 - len(GOOD_T))


class TooLong(unittest.TestCase):
    def test_sizes(self):
        self.assertEqual((len(LONG_I), len(LONG_T)), (4097, 65537))
        self.assertEqual(desk.fits(LONG_I, GOOD_T), [-2])
        self.assertEqual(desk.note(0, 0, LONG_I, GOOD_T), [-2])
        self.assertEqual(desk.fits(GOOD_I, LONG_T), [-2])
        self.assertEqual(desk.note(0, 0, GOOD_I, LONG_T), [-2])
        self.assertEqual(desk.fits(LONG_I, LONG_T), [-2])

    def test_just_not_too_long(self):
        self.assertEqual(desk.fits(LONG_I[:-1], GOOD_T), [-6])
        self.assertEqual(desk.note(0, 0, LONG_I[:-1], GOOD_T), [-6])
        self.assertEqual(desk.fits(GOOD_I, LONG_T[:-1]), [-8])
        self.assertEqual(desk.note(0, 0, GOOD_I, LONG_T[:-1]), [-8])

    def test_greatest_lists(self):
        self.assertEqual(desk.fits(LONG_I + [10] * (4200 - 4097), LONG_T + [10] * (66000 - 65537)), [-2])
        self.assertEqual(desk.fits(GOOD_I, [0] * 66000), [-2])
        self.assertEqual(desk.fits([255] * 4096, [255] * 65536), [-6])


class InTheirOrder(unittest.TestCase):
    def test_too_long_before_all_else(self):
        self.assertEqual(desk.fits(BAD_I, LONG_T), [-2])
        self.assertEqual(desk.fits(LONG_I, BAD_T), [-2])
        self.assertEqual(desk.note(3, 9, BAD_I, LONG_T), [-2])
        self.assertEqual(desk.note(3, 9, LONG_I, BAD_T), [-2])

    def test_instrument_before_piece(self):
        self.assertEqual(desk.fits(BAD_I, BAD_T), [-6])
        self.assertEqual(desk.note(3, 9, BAD_I, BAD_T), [-6])
        self.assertEqual(desk.note(3, 0, BAD_I, GOOD_T), [-6])
        self.assertEqual(desk.fits([], []), [-6])

    def test_piece_before_ring(self):
        self.assertEqual(desk.fits(GOOD_I, BAD_T), [-8])
        self.assertEqual(desk.note(3, 9, GOOD_I, BAD_T), [-8])
        self.assertEqual(desk.fits(GOOD_I, []), [-8])

    def test_ring_before_misfit(self):
        self.assertEqual(desk.note(3, 9, GOOD_I, MISFIT_T), [-1])
        self.assertEqual(desk.note(2147483647, 0, GOOD_I, MISFIT_T), [-1])

    def test_ring_before_number(self):
        self.assertEqual(desk.note(3, 9, GOOD_I, GOOD_T), [-1])
        self.assertEqual(desk.note(3, 0, GOOD_I, EMPTY_T), [-1])

    def test_misfit_before_number(self):
        self.assertEqual(desk.note(2, 9, GOOD_I, MISFIT_T), [-3])
        self.assertEqual(desk.note(2, 0, GOOD_I, MISFIT_T), [-3])
        self.assertEqual(desk.fits(GOOD_I, MISFIT_T), [-3, 2, 2])

    def test_number_last(self):
        self.assertEqual(desk.note(2, 1, GOOD_I, GOOD_T), [-4])
        self.assertEqual(desk.note(2, 0, GOOD_I, EMPTY_T), [-4])

    def test_ring_alone(self):
        for ring in (3, 4, 2147483647):
            self.assertEqual(desk.note(ring, 0, GOOD_I, GOOD_T), [-1])
        for ring in (0, 1, 2):
            self.assertEqual(desk.note(ring, 0, GOOD_I, GOOD_T), [0, 16, 0, 1, 0, 0, 0, 0, 0, 1])


class NothingKept(unittest.TestCase):
    def test_what_is_handed_in_stays(self):
        for i in (GOOD_I, BAD_I, LONG_I):
            for t in (GOOD_T, BAD_T, MISFIT_T, EMPTY_T, LONG_T):
                mine = (list(i), list(t))
                desk.fits(mine[0], mine[1])
                for ring in range(4):
                    for k in range(2):
                        desk.note(ring, k, mine[0], mine[1])
                self.assertEqual(mine, (i, t))

    def test_a_second_call_answers_as_the_first(self):
        calls = [(ring, k, i, t) for i in (GOOD_I, BAD_I) for t in (GOOD_T, BAD_T, MISFIT_T, EMPTY_T)
                 for ring in range(4) for k in range(2)]
        first = [(desk.note(*call), desk.fits(call[2], call[3])) for call in calls]
        second = [(desk.note(*call), desk.fits(call[2], call[3])) for call in reversed(calls)]
        self.assertEqual(first, list(reversed(second)))

    def test_an_answer_is_the_callers_own(self):
        for call in (lambda: desk.note(0, 0, GOOD_I, GOOD_T), lambda: desk.fits(GOOD_I, GOOD_T),
                     lambda: desk.fits(GOOD_I, MISFIT_T), lambda: desk.fits(BAD_I, GOOD_T)):
            answer = call()
            before = list(answer)
            answer.append(7)
            answer[0] = 99
            self.assertEqual(call(), before)

    def test_kinds_of_the_answers(self):
        for answer in (desk.note(0, 0, GOOD_I, GOOD_T), desk.note(0, 5, GOOD_I, GOOD_T), desk.fits(GOOD_I, GOOD_T),
                       desk.fits(GOOD_I, MISFIT_T), desk.fits(BAD_I, GOOD_T)):
            self.assertIs(type(answer), list)
            self.assertEqual({type(number) for number in answer}, {int})

    def test_arguments_by_their_names(self):
        self.assertEqual(desk.fits(i=GOOD_I, t=GOOD_T), [1])
        self.assertEqual(desk.note(ring=0, k=0, i=GOOD_I, t=GOOD_T), desk.note(0, 0, GOOD_I, GOOD_T))
