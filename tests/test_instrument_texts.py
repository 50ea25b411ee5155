import unittest

from lutesounds import desk
from lutesounds.instruments import read_instrument
from tests.helper import FULL_LUTE, as_bytes, equal_frets, fault, instrument, piece

ONE_NOTE = as_bytes(piece("french", [(1, {1: 0})]))
HEAD = "length 60000\n"

GOOD = (
    instrument(),
    instrument(length="10000"),
    instrument(length="200000"),
    instrument(["2^1/12"]),
    instrument(equal_frets(15)),
    instrument(["3", "2^2"]),
    instrument(courses=["1"] * 14),
    instrument(courses=["1"] * 13, basses=["1"]),
    instrument(courses=["1"], basses=["1"] * 13),
    instrument(courses=["2", "1", "3", "3"]),
    # A bass has no frets, so it needn't sound an interval with them.
    instrument(["2"], ["1"], ["2^99"]),
    # Reduced by a common factor, both upon one another are an interval.
    instrument(["2^1/23"], ["2^22/23"]),
    instrument(["2 3^-1/24 5^1/24"], ["2 3^1/24 5^-1/24"]),
    instrument(["2"], ["2^98"]),
    FULL_LUTE,
)

# Each text with the place where it is at fault.
BAD = (
    ("", 0),
    # The first line.
    ("l", 1), ("length", 6), ("Length 60000\n", 0), ("lenght 60000\n", 4), ("length  60000\n", 7), ("length\n", 6),
    ("\nlength 60000\n", 0), ("course 1\n", 0), (" length 60000\ncourse 1\n", 0),
    ("length ", 7), ("length x", 7), ("length -60000\n", 7), ("length 060000\n", 7), ("length 0", 7),
    ("length 60000", 12), ("length 60000 \n", 12), ("length 60000.\n", 12), ("length 60000\r\n", 12),
    # N out of its bounds, told before what follows it, and its digits.
    (instrument(length="9999"), 7), (instrument(length="200001"), 7), (instrument(length="1"), 7),
    (instrument(length="9999999"), 7), ("length 9999", 7), ("length 9999x", 7), ("length 200001 ", 7),
    (instrument(length="12345678"), 14), (instrument(length="10000000"), 14), ("length 0010000\n", 7),
    # The lines' first words and their order.
    (HEAD, 13), (HEAD + "\n", 13), (HEAD + "x", 13), (HEAD + "length 60000\n", 13), (HEAD + " course 1\n", 13),
    (HEAD + "c", 14), (HEAD + "cour", 17), (HEAD + "course", 19), (HEAD + "course\n", 19), (HEAD + "coarse 1\n", 15),
    (HEAD + "courses 1\n", 19), (HEAD + "Course 1\n", 13), (HEAD + "fret", 17), (HEAD + "frets", 17),
    (HEAD + "b", 13), (HEAD + "bass 1\n", 13), (HEAD + "bass 1\ncourse 1\n", 13),
    (HEAD + "fret 2\nbass 1\n", 20), (HEAD + "fret 2\n", 20),
    (HEAD + "course 1\nfret 2\n", 22), (HEAD + "course 1\nbass 1\ncourse 1\n", 29),
    (HEAD + "course 1\nbass 1\nfret 2\n", 29), (HEAD + "course 1\n\n", 22), (HEAD + "course 1\nlength 60000\n", 22),
    (HEAD + "course 1\nbas", 25), (HEAD + "course 1\nbass", 26), (HEAD + "course 1\nbass\n", 26),
    # A missing last line feed.
    (HEAD + "course 1", 21), (HEAD + "course 1\nbass 1", 28), (HEAD + "fret 2", 19),
    # X at fault: its own place of fault, counted from where it begins.
    (HEAD + "course ", 20), (HEAD + "course \n", 20), (HEAD + "course 3 2\n", 22), (HEAD + "course 2^100\n", 25),
    (HEAD + "course  1\n", 20), (HEAD + "course 1 \n", 21), (HEAD + "course 2^0\n", 20), (HEAD + "course 2x", 21),
    (HEAD + "fret 2^\n", 20), (HEAD + "fret 4\n", 18), (HEAD + "course 1\nbass 2 2\n", 29),
    (HEAD + "course 1\nbass ", 27), (HEAD + "course 1\r\n", 21), (HEAD + "course 2" + " " * 300, 22),
    # Frets that don't widen, told before their line feed.
    (HEAD + "fret 1\ncourse 1\n", 18), (HEAD + "fret 2^-1\ncourse 1\n", 18), (HEAD + "fret 1", 18),
    (HEAD + "fret 2\nfret 2\ncourse 1\n", 25), (HEAD + "fret 2\nfret 2^-1 3\ncourse 1\n", 25),
    (HEAD + "fret 2^-1 3\nfret 2^7/12\ncourse 1\n", 30), (HEAD + "fret 2\nfret 1\ncourse 1\n", 25),
    (HEAD + "fret 2\nfret 2^2\nfret 3\ncourse 1\n", 34),
    # Courses that don't sound an interval with each fret.
    (HEAD + "fret 2\ncourse 2^99\n", 27), (HEAD + "fret 2\ncourse 2^99", 27),
    (HEAD + "fret 2^1/5\ncourse 2^1/7\n", 31), (HEAD + "fret 2^1/2\ncourse 3^99\n", 31),
    (HEAD + "fret 2^-1 3\nfret 2\ncourse 2^99\n", 39), (HEAD + "fret 2\ncourse 1\ncourse 2^99\n", 36),
    (HEAD + "fret 2^99 3^-50\ncourse 3^-50\n", 36), (HEAD + "fret 5^1/24\ncourse 7^1/23\n", 32),
    # The 16th fret, the 15th course or bass: looked at behind the line's first word.
    (instrument(equal_frets(15) + ["3"]), len(instrument(equal_frets(15), courses=[]))),
    (instrument(equal_frets(15), courses=[]) + "fret", len(instrument(equal_frets(15), courses=[]))),
    (instrument(equal_frets(15), courses=[]) + "fretx", len(instrument(equal_frets(15), courses=[]))),
    (instrument(equal_frets(15), courses=[]) + "fre", len(instrument(equal_frets(15), courses=[])) + 3),
    (instrument(courses=["1"] * 15), 13 + 14 * 9),
    (instrument(courses=["1"] * 14) + "course", 13 + 14 * 9),
    (instrument(courses=["1"] * 14) + "cours ", 13 + 14 * 9 + 5),
    (instrument(courses=["1"] * 14, basses=["1"]), 13 + 14 * 9),
    (instrument(courses=["1"] * 13, basses=["1"] * 2), 13 + 13 * 9 + 7),
    (instrument(courses=["1"], basses=["1"] * 14), 13 + 9 + 13 * 7),
    (instrument(courses=["1"], basses=["1"] * 13) + "bassx", 13 + 9 + 13 * 7),
)


class InstrumentTexts(unittest.TestCase):
    def test_good_ones(self):
        for text in GOOD:
            self.assertIsNone(fault(read_instrument, text), text)
            self.assertEqual(desk.fits(as_bytes(text), ONE_NOTE), [1], text)

    def test_places_of_faults(self):
        for text, place in BAD:
            self.assertEqual(fault(read_instrument, text), place, repr(text))

    def test_bad_ones_by_the_calls(self):
        for text, place in BAD:
            self.assertEqual(desk.fits(as_bytes(text), ONE_NOTE), [-6], repr(text))
            self.assertEqual(desk.note(0, 0, as_bytes(text), ONE_NOTE), [-6], repr(text))

    def test_each_beginning_of_a_good_one_lacks_something(self):
        # A beginning that ends with a whole course or bass is an instrument; of all others more must come.
        text = instrument(["2^1/12", "2^1/6"], ["2^-1 3", "1"], ["2^-1", "2^-2"])
        whole = [k + 1 for k in range(len(text)) if text[k] == "\n" and k > text.index("course")]
        for end in range(len(text)):
            answer = desk.fits(as_bytes(text[:end]), ONE_NOTE)
            self.assertEqual(answer, [1] if end in whole else [-6], text[:end])

    def test_what_is_told(self):
        told = read_instrument(as_bytes(instrument(["2^1/12", "2^1/6"], ["2^-1 3", "1"], ["2^-1"])))
        self.assertEqual(told.frets, [(1, 0, 0, 0, 12), (1, 0, 0, 0, 6)])
        self.assertEqual(told.courses, [(-1, 1, 0, 0, 1), (0, 0, 0, 0, 1)])
        self.assertEqual(told.basses, [(-1, 0, 0, 0, 1)])


class Places(unittest.TestCase):
    def setUp(self):
        self.told = read_instrument(as_bytes(instrument(["2^1/12", "2^1/6"], ["2^-1 3", "1"], ["2^-1"])))

    def test_which_there_are(self):
        there = [(c, f) for c in range(1, 15) for f in range(16) if self.told.has_place(c, f)]
        self.assertEqual(there, [(1, 0), (1, 1), (1, 2), (2, 0), (2, 1), (2, 2), (3, 0)])

    def test_what_they_sound(self):
        self.assertEqual(self.told.sound(1, 0), (-1, 1, 0, 0, 1))
        self.assertEqual(self.told.sound(1, 1), (-11, 12, 0, 0, 12))
        self.assertEqual(self.told.sound(2, 2), (1, 0, 0, 0, 6))
        self.assertEqual(self.told.sound(3, 0), (-1, 0, 0, 0, 1))
