import itertools
import random
import unittest

from lutesounds import desk
from lutesounds.pieces import read_piece
from lutesounds.refusals import TextFault
from tests.helper import BAR, FULL_LUTE, KINDS, LENGTH_SIGNS, as_bytes, fault, piece

LUTE = as_bytes(FULL_LUTE)
# A moment without a stop, and one of course 1 open, behind the length's sign and its blank.
EMPTY = {"french": "......", "italian": "......", "german": "."}
FIRST_OPEN = {"french": "a.....", "italian": ".....0", "german": "5"}


def told(text):
    """A piece's lines as piece() takes them."""
    return [BAR if line.is_bar() else (line.length, dict(line.stops)) for line in read_piece(as_bytes(text))]


class PieceCase(unittest.TestCase):
    def assert_fault(self, text, place):
        self.assertEqual(fault(read_piece, text), place, repr(text))
        self.assertEqual(desk.fits(LUTE, as_bytes(text)), [-8], repr(text))
        self.assertEqual(desk.note(0, 0, LUTE, as_bytes(text)), [-8], repr(text))

    def assert_tells(self, text, lines):
        self.assertEqual(told(text), lines, repr(text))
        count = sum(len(line[1]) for line in lines if line is not BAR)
        self.assertEqual(desk.fits(LUTE, as_bytes(text)), [count], repr(text))


class EveryKind(PieceCase):
    def test_first_line(self):
        for text, place in (
                ("", 0), ("\n", 0), ("x", 0), ("French\nq a.....\n", 0), ("english\nq a.....\n", 0), (" french\n", 0),
                ("f", 1), ("frensh\n", 4), ("french", 6), ("french \n", 6), ("french\r\n", 6), ("frenchq", 6),
                ("italien\n", 5), ("italian", 7), ("i", 1), ("german", 6), ("germany\n", 6), ("g", 1), ("q a.....\n", 0),
                ("fretch\n", 3), ("gerrman\n", 3), ("ita", 3)):
            self.assert_fault(text, place)

    def test_no_moment(self):
        for kind in KINDS:
            self.assert_fault(kind + "\n", len(kind) + 1)
            self.assert_fault(kind + "\n|\n", len(kind) + 3)
            self.assert_fault(kind + "\n|\n|\n|\n", len(kind) + 7)

    def test_every_length(self):
        for kind in KINDS:
            lines = [(length, {1: 0}) for length in LENGTH_SIGNS]
            self.assert_tells(piece(kind, lines), lines)
            for length, sign in LENGTH_SIGNS.items():
                self.assert_tells(f"{kind}\n{sign} {FIRST_OPEN[kind]}\n", [(length, {1: 0})])

    def test_length_left_out(self):
        for kind in KINDS:
            stops = FIRST_OPEN[kind]
            self.assert_tells(f"{kind}\nq {stops}\n {stops}\n|\n|\n {stops}\nh {stops}\n {stops}\nq {stops}\n",
                              [(16, {1: 0}), (16, {1: 0}), BAR, BAR, (16, {1: 0}),
                               (32, {1: 0}), (32, {1: 0}), (16, {1: 0})])

    def test_length_told_though_it_is_the_one_before(self):
        for kind in KINDS:
            stops = FIRST_OPEN[kind]
            for sign in LENGTH_SIGNS.values():
                for bars in ("", "|\n", "|\n|\n"):
                    start = f"{kind}\n{sign} {stops}\n{bars}"
                    self.assert_fault(f"{start}{sign} {stops}\n", len(start))
                    self.assert_fault(f"{start}{sign} ", len(start))
                    self.assert_fault(f"{start}{sign} %", len(start))
                    self.assert_fault(f"{start} {stops}\n{sign} {stops}\n", len(f"{start} {stops}\n"))
                    # It is looked at at its blank: without one, what stands in its place is at fault.
                    self.assert_fault(start + sign, len(start + sign))
                    self.assert_fault(start + sign + "\n", len(start + sign))

    def test_a_point_makes_another_length(self):
        for kind in KINDS:
            stops = FIRST_OPEN[kind]
            self.assert_tells(f"{kind}\nq {stops}\nq. {stops}\nq {stops}\n",
                              [(16, {1: 0}), (24, {1: 0}), (16, {1: 0})])

    def test_first_moment_without_a_sign(self):
        for kind in KINDS:
            self.assert_fault(f"{kind}\n {FIRST_OPEN[kind]}\n", len(kind) + 1)
            self.assert_fault(f"{kind}\n|\n|\n {FIRST_OPEN[kind]}\n", len(kind) + 5)

    def test_no_length_sign(self):
        for kind in KINDS:
            start = len(kind) + 1
            for text, place in (("a a", 0), ("\n", 0), (".", 0), ("Q ", 0), ("m ", 0), ("|", 1), ("| \n", 1), ("||\n", 1),
                                ("|q", 1), ("q", 1), ("q\n", 1), ("x.", 1), ("x. ", 1), ("qq ", 1), ("q|", 1), ("q..", 2),
                                ("q.", 2), ("q.h ", 2), ("q.|", 2), ("xx ", 1), ("16 ", 0)):
                self.assert_fault(f"{kind}\n{text}", start + place)

    def test_missing_line_feed(self):
        for kind in KINDS:
            text = f"{kind}\nq {FIRST_OPEN[kind]}"
            self.assert_fault(text, len(text))
            self.assert_fault(text + "\n|", len(text) + 2)
            self.assert_fault(text + "\n ", len(text) + 2)

    def test_512_lines_and_513(self):
        for kind in KINDS:
            moments = piece(kind, [(1, {1: 0})] * 512)
            self.assertEqual(desk.fits(LUTE, as_bytes(moments)), [512])
            bars = piece(kind, [BAR] * 511 + [(1, {1: 0})])
            self.assertEqual(desk.fits(LUTE, as_bytes(bars)), [1])
            for text in (moments, bars):
                self.assert_fault(f"{text} {FIRST_OPEN[kind]}\n", len(text))
                self.assert_fault(text + "|\n", len(text))
                self.assert_fault(text + "%", len(text))
            only_bars = piece(kind, [BAR] * 512)
            self.assert_fault(only_bars, len(only_bars))

    def test_no_stop(self):
        for kind in KINDS:
            self.assert_tells(f"{kind}\nq {EMPTY[kind]}\n", [(16, {})])
            self.assert_tells(f"{kind}\nq {EMPTY[kind]}\n|\n {EMPTY[kind]}\n", [(16, {}), BAR, (16, {})])

    def test_every_stop(self):
        stops = [(c, f) for c in range(1, 7) for f in range(16)] + [(c, 0) for c in range(7, 15)]
        for kind in KINDS:
            for course, fret in stops:
                self.assert_tells(piece(kind, [(2, {course: fret})]), [(2, {course: fret})])

    def test_all_sets_of_basses(self):
        for kind in KINDS:
            for count in range(9):
                for basses in itertools.combinations(range(7, 15), count):
                    for neck in ({}, {1: 3, 6: 15}, {1: 0, 2: 1, 3: 2, 4: 3, 5: 4, 6: 5}):
                        stops = {**neck, **{course: 0 for course in basses}}
                        self.assert_tells(piece(kind, [(2, stops)]), [(2, stops)])

    def test_beginnings_of_a_piece_that_end_within_a_line(self):
        for kind in KINDS:
            text = piece(kind, [(24, {1: 11, 5: 6, 6: 15, 7: 0, 10: 0, 14: 0}), BAR, (24, {2: 1}), (1, {})])
            for end in range(len(text)):
                if text[:end].count("\n") < 2 or text[end - 1] != "\n":
                    self.assert_fault(text[:end], end)

    def test_bytes_above_127(self):
        for kind in KINDS:
            self.assert_fault(f"{kind}\nq \xe1.....\n", len(kind) + 3)
            self.assert_fault(f"{kind}\n\xff", len(kind) + 1)
            self.assert_fault(f"{kind}\n\x00", len(kind) + 1)


class French(PieceCase):
    def test_signs(self):
        self.assert_tells("french\nq abcdef\n ghiklm\n nopq..\n",
                          [(16, {1: 0, 2: 1, 3: 2, 4: 3, 5: 4, 6: 5}), (16, {1: 6, 2: 7, 3: 8, 4: 9, 5: 10, 6: 11}),
                           (16, {1: 12, 2: 13, 3: 14, 4: 15})])
        self.assert_tells("french\nq a....b a /a //a ///a 4 5 6 7\n",
                          [(16, {1: 0, 6: 1, 7: 0, 8: 0, 9: 0, 10: 0, 11: 0, 12: 0, 13: 0, 14: 0})])

    def test_faults(self):
        for stops, place in (
                ("j.....\n", 0), ("r.....\n", 0), (".....j\n", 5), ("A.....\n", 0), ("......\r\n", 6), ("0.....\n", 0),
                (".....\n", 5), ("\n", 0), (" ......\n", 0), (".......\n", 6), ("......a\n", 6), ("a\n", 1), (".", 1),
                ("...... \n", 7), ("......  a\n", 7), ("...... b\n", 7), ("...... 3\n", 7), ("...... 8\n", 7),
                ("...... /b\n", 8), ("...... /\n", 8), ("...... / a\n", 8), ("...... ///\n", 10), ("...... ////a\n", 10),
                ("...... aa\n", 8), ("...... a/a\n", 8), ("...... 44\n", 8), ("...... a \n", 9), ("...... .\n", 7),
                ("...... /4\n", 8), ("...... 10\n", 7), ("...... -7\n", 7)):
            self.assert_fault("french\nq " + stops, 9 + place)

    def test_basses_out_of_order(self):
        signs = ["a", "/a", "//a", "///a", "4", "5", "6", "7"]
        for k, sign in enumerate(signs):
            for later in range(k + 1):
                start = f"french\nq a..... {sign} "
                self.assert_fault(start + signs[later] + "\n", len(start))
                self.assert_fault(start + signs[later], len(start))
                self.assert_fault(start + signs[later] + "%", len(start))
        self.assert_fault("french\nq ...... 4 //\n", 20)
        self.assert_fault("french\nq ...... a 4 /a\n", 20)


class Italian(PieceCase):
    def test_signs(self):
        self.assert_tells("italian\nq 012345\n 6789xy\n zvuw..\n",
                          [(16, {6: 0, 5: 1, 4: 2, 3: 3, 2: 4, 1: 5}), (16, {6: 6, 5: 7, 4: 8, 3: 9, 2: 10, 1: 11}),
                           (16, {6: 12, 5: 13, 4: 14, 3: 15})])
        self.assert_tells("italian\nq 0....1 7 8 9 10 11 12 13 14\n",
                          [(16, {1: 1, 6: 0, 7: 0, 8: 0, 9: 0, 10: 0, 11: 0, 12: 0, 13: 0, 14: 0})])

    def test_stops_are_told_by_courses(self):
        line = read_piece(as_bytes("italian\nq 012345 7 9\n"))[0]
        self.assertEqual(line.stops, [(1, 5), (2, 4), (3, 3), (4, 2), (5, 1), (6, 0), (7, 0), (9, 0)])

    def test_faults(self):
        for stops, place in (
                ("a.....\n", 0), ("t.....\n", 0), (".....s\n", 5), ("X.....\n", 0), ("......\r\n", 6), ("10....0\n", 6),
                (".....\n", 5), ("\n", 0), (" ......\n", 0), (".......\n", 6), ("......7\n", 6), ("0\n", 1), (".", 1),
                ("...... \n", 7), ("......  7\n", 7), ("...... 6\n", 7), ("...... 0\n", 7), ("...... a\n", 7),
                ("...... 1\n", 8), ("...... 15\n", 8), ("...... 1 \n", 8), ("...... 17\n", 8), ("...... 77\n", 8),
                ("...... 07\n", 7), ("...... 101\n", 9), ("...... 7 \n", 9), ("...... -7\n", 7), ("...... .\n", 7)):
            self.assert_fault("italian\nq " + stops, 10 + place)

    def test_basses_out_of_order(self):
        for course in range(7, 15):
            for later in range(7, course + 1):
                start = f"italian\nq .....0 {course} "
                self.assert_fault(f"{start}{later}\n", len(start))
                self.assert_fault(f"{start}{later}", len(start))
                self.assert_fault(f"{start}{later}0", len(start))
        self.assert_fault("italian\nq ...... 9 1x\n", 20)
        self.assert_fault("italian\nq ...... 7 9 8\n", 21)


class German(PieceCase):
    def test_signs(self):
        self.assert_tells("german\nq 5 4 3 2 1 +\n e d c b a A\n 9 & z y x P\n",
                          [(16, {c: 0 for c in range(1, 7)}), (16, {c: 1 for c in range(1, 7)}),
                           (16, {1: 5, 2: 5, 3: 5, 4: 5, 5: 5, 6: 15})])
        self.assert_tells("german\nq -7 -8 -9 -10 -11 -12 -13 -14\n", [(16, {c: 0 for c in range(7, 15)})])
        self.assert_tells("german\nq aa\n aaa\n a\n 999\n xx\n xxx\n",
                          [(16, {5: 6}), (16, {5: 11}), (16, {5: 1}), (16, {1: 15}), (16, {5: 10}), (16, {5: 15})])
        for fret, sign in enumerate("ABCDEFGHIKLMNOP"):
            self.assert_tells(f"german\nq {sign}\n", [(16, {6: fret + 1})])
        for number, sign in enumerate("abcdefghiklmnopqrstvxyz&9"):
            self.assert_tells(f"german\nq {sign}\n", [(16, {5 - number % 5: 1 + number // 5})])

    def test_faults(self):
        for stops, place in (
                ("j\n", 0), ("u\n", 0), ("w\n", 0), ("J\n", 0), ("Q\n", 0), ("0\n", 0), ("6\n", 0), ("8\n", 0), ("%\n", 0),
                ("\n", 0), (" a\n", 0), (". a\n", 1), ("..\n", 1), (".a\n", 1), ("a .\n", 2), ("a \n", 2), ("e  a\n", 2),
                ("ab\n", 1), ("a5\n", 1), ("aaaa\n", 3), ("aaab\n", 3), ("9999\n", 3), ("55\n", 1), ("++\n", 1),
                ("AA\n", 1), ("-\n", 1), ("- 7\n", 1), ("-6\n", 1), ("-1\n", 2), ("-15\n", 2), ("-77\n", 2),
                ("-101\n", 3), ("-07\n", 1), ("--7\n", 1), ("7\n", 0), ("a\r\n", 1), ("e d -\n", 5), ("aa", 2)):
            self.assert_fault("german\nq " + stops, 9 + place)

    def test_courses_out_of_order(self):
        signs = ["5", "e", "ee", "d", "4", "3", "ccc", "hh", "2", "1", "a", "xxx", "+", "P", "-7", "-8", "-10", "-14"]
        courses = [1, 1, 1, 2, 2, 3, 3, 3, 4, 5, 5, 5, 6, 6, 7, 8, 10, 14]
        for sign, course in zip(signs, courses):
            start = f"german\nq {sign} "
            for later, other in zip(signs, courses):
                if other <= course:
                    for rest in ("", "\n", "%", " 5\n"):
                        self.assert_fault(start + later + rest, len(start))
                else:
                    self.assertIsNone(fault(read_piece, start + later + "\n"))

    def test_order_is_looked_at_when_the_sign_stands_whole(self):
        # A fourth byte can't go on with three, so these stand whole, and their order is told first.
        self.assert_fault("german\nq a aaaa\n", 11)
        self.assert_fault("german\nq e aaaa\n", 14)
        self.assert_fault("german\nq 5 4 5x\n", 13)
        self.assert_fault("german\nq -9 -1x\n", 14)
        self.assert_fault("german\nq -9 -\n", 13)


class OneByteAltered(unittest.TestCase):
    """Of a piece's text with a byte altered: if it is one still, writing what it tells gives it back."""

    def test_reading_and_writing_agree(self):
        source = random.Random(5)
        alphabet = "\n |.abcdeghjkq0123456789xyzvuw&/+-AP\x00\xff"
        kept = 0
        for number in range(9000):
            kind = KINDS[number % 3]
            text = piece(kind, random_lines(source))
            place = source.randrange(len(kind), len(text))
            text = text[:place] + source.choice(alphabet) + text[place + source.randrange(2):]
            try:
                lines = told(text)
            except TextFault:
                continue
            kept += 1
            self.assertEqual(piece(kind, lines), text)
            self.assertTrue(any(line is not BAR for line in lines))
        self.assertGreater(kept, 300)


def random_lines(source):
    lines = [(source.choice(list(LENGTH_SIGNS)), {1: 0})]
    for number in range(source.randrange(4)):
        if source.random() < 0.25:
            lines.append(BAR)
            continue
        courses = sorted(source.sample(range(1, 15), source.randrange(6)))
        lines.append((source.choice((1, 16, 24)), {c: source.randrange(16) if c < 7 else 0 for c in courses}))
    return lines
