"""D1 to D5 on random instruments and pieces, against a second way of finding the notes."""

import itertools
import random
import unittest
from decimal import Decimal, localcontext
from fractions import Fraction

from lutesounds import desk
from tests.helper import BAR, KINDS, LENGTH_SIGNS, as_bytes, instrument, piece

FACTORS = (2, 3, 5, 7)


def write_interval(powers):
    factors = [str(f) if p == 1 else f"{f}^{p}" for f, p in zip(FACTORS, powers) if p != 0]
    return " ".join(factors) or "1"


def five_numbers(powers):
    d = 1
    while any(p * d != int(p * d) for p in powers):
        d += 1
    return [int(p * d) for p in powers] + [d]


with localcontext() as context:
    context.prec = 60
    # Logarithms as whole numbers; all widths that differ do so far above the last digits.
    LOGARITHMS = [int(Decimal(f).ln() * 10**50) for f in FACTORS]


def width(powers):
    """The ratio's logarithm."""
    return sum(p * logarithm for p, logarithm in zip(powers, LOGARITHMS))


def random_powers(source, d):
    """Powers in parts of d, so small that any two upon one another are an interval."""
    whole = min(4, 49 // d)
    return tuple(Fraction(source.randrange(-4, 5), d) if source.random() < 0.5 else
                 Fraction(source.randrange(-whole, whole + 1)) for factor in FACTORS)


def random_lute(source):
    d = source.choice((1, 2, 3, 4, 6, 12, 24))
    frets = sorted((p for p in {random_powers(source, d) for k in range(source.randrange(31))} if width(p) > 0),
                   key=width)
    frets = [p for k, p in enumerate(frets) if k == 0 or width(p) > width(frets[k - 1])][:15]
    courses = [random_powers(source, d) for k in range(source.randrange(1, 15))]
    basses = [random_powers(source, 5) for k in range(source.randrange(15 - len(courses)))]
    return frets, courses, basses


def random_lines(source, frets, courses, basses):
    """Lines that fit, at least one of them a moment."""
    lines = []
    strings = len(courses) + len(basses)
    for number in range(source.randrange(1, 12)):
        if source.random() < 0.3:
            lines.append(BAR)
            continue
        stops = {}
        for course in sorted(source.sample(range(1, strings + 1), source.randrange(strings + 1))):
            stopped = course <= min(6, len(courses))
            stops[course] = source.randrange(len(frets) + 1) if stopped else 0
        lines.append((source.choice(list(LENGTH_SIGNS)), stops))
    return lines + [(16, {})]


def expected_notes(lute, lines):
    """Of each note, in order: its beginning, its ends by the rings 0, 1, 2, line, course, fret, five numbers."""
    frets, courses, basses = lute
    total = sum(line[0] for line in lines if line is not BAR)
    waiting = {}
    notes = []
    unit = 0
    for number, line in enumerate(lines):
        if line is BAR:
            for note in waiting.values():
                note["bar"] = min(note["bar"], unit)
            continue
        length, stops = line
        for course, fret in stops.items():
            if course in waiting:
                waiting[course]["again"] = unit
            powers = (courses + basses)[course - 1]
            if fret > 0:
                powers = tuple(p + q for p, q in zip(powers, frets[fret - 1]))
            waiting[course] = {"begin": unit, "moment": unit + length, "again": total, "bar": total,
                               "told": [number, course, fret] + five_numbers(powers),
                               "order": (unit, width(powers), course)}
            notes.append(waiting[course])
        unit += length
    answers = []
    for note in sorted(notes, key=lambda note: note["order"]):
        rings = (note["moment"], note["again"], min(note["again"], note["bar"]))
        answers.append([[note["begin"], end] + note["told"] for end in rings])
    return answers


class Promises(unittest.TestCase):
    def test_d1_notes_are_the_stops_in_order_and_end_as_told(self):
        source = random.Random(11)
        seen = 0
        for number in range(250):
            lute = random_lute(source)
            lines = random_lines(source, *lute)
            i = as_bytes(instrument(*[[write_interval(p) for p in part] for part in lute]))
            t = as_bytes(piece(KINDS[number % 3], lines))
            expected = expected_notes(lute, lines)
            self.assertEqual(desk.fits(i, t), [len(expected)])
            for k in source.sample(range(len(expected)), min(8, len(expected))):
                answers = [desk.note(ring, k, i, t) for ring in range(3)]
                self.assertEqual(answers, expected[k])
                self.assert_no_shorter(answers)
                seen += 1
            self.assertEqual(desk.note(0, len(expected), i, t), [-4])
        self.assertGreater(seen, 1000)

    def assert_no_shorter(self, answers):
        """D4, and that no note ends before it begins."""
        begin = answers[0][0]
        self.assertLessEqual(begin, answers[0][1])
        self.assertLessEqual(answers[0][1], answers[2][1])
        self.assertLessEqual(answers[2][1], answers[1][1])

    def test_each_stop_is_one_note(self):
        source = random.Random(12)
        for number in range(60):
            lute = random_lute(source)
            lines = random_lines(source, *lute)
            i = as_bytes(instrument(*[[write_interval(p) for p in part] for part in lute]))
            t = as_bytes(piece(KINDS[number % 3], lines))
            stops = [[k, c, f] for k, line in enumerate(lines) if line is not BAR for c, f in line[1].items()]
            notes = [desk.note(1, k, i, t) for k in range(len(stops))]
            self.assertEqual(sorted(answer[2:5] for answer in notes), stops)
            begins = [answer[0] for answer in notes]
            self.assertEqual(begins, sorted(begins))

    def test_the_longest_piece_of_the_most_notes(self):
        courses = ["2^97/24", "3^-95/23", "5^89/22", "7^-83/21", "2^79/20 3^-1/20", "3^61/19 5^-1/19", "1", "2",
                   "3", "5", "7", "2^97/17", "3^97/16", "5^-97/13"]
        i = as_bytes(instrument([], courses))
        t = as_bytes(piece("french", [(96, {c: 0 for c in range(1, 15)})] * 512))
        self.assertEqual(desk.fits(i, t), [7168])
        last = desk.note(1, 7167, i, t)
        self.assertEqual(last, [49056, 49152, 511, 13, 0, 0, 97, 0, 0, 16])


def apart(first, second):
    """How far the second five numbers are above the first, as five numbers."""
    return five_numbers([Fraction(q, second[4]) - Fraction(p, first[4]) for p, q in zip(first[:4], second[:4])])


def expected_sounding(expected, ring, n):
    """The numbers of the notes that sound at unit n."""
    return [k for k, rings in enumerate(expected) if rings[ring][0] <= n < rings[ring][1]]


def expected_distances(expected, ring, total):
    """Of each unit how far any two of its notes are apart, either way."""
    distances = []
    before = None
    for n in range(total):
        five = [expected[k][ring][5:] for k in expected_sounding(expected, ring, n)]
        if five == before:
            distances.append(distances[-1])
        else:
            distances.append([apart(p, q) for k, p in enumerate(five) for m, q in enumerate(five) if k != m])
        before = five
    return distances


def cases(seed, count):
    source = random.Random(seed)
    for number in range(count):
        lute = random_lute(source)
        lines = random_lines(source, *lute)
        i = as_bytes(instrument(*[[write_interval(p) for p in part] for part in lute]))
        t = as_bytes(piece(KINDS[number % 3], lines))
        total = sum(line[0] for line in lines if line is not BAR)
        yield source, i, t, expected_notes(lute, lines), total


class WhatSounds(unittest.TestCase):
    def test_d2_at_each_unit_just_those_told_sound(self):
        most = 0
        for source, i, t, expected, total in cases(21, 80):
            edges = {edge for rings in expected for answer in rings for edge in answer[:2]}
            units = {edge + step for edge in edges for step in (-1, 0) if edge + step >= 0} | {total, total + 1}
            for ring in range(3):
                for n in source.sample(sorted(units), min(12, len(units))):
                    numbers = expected_sounding(expected, ring, n)
                    self.assertEqual(desk.at(ring, n, i, t), [len(numbers)] + numbers)
                    courses = [expected[k][ring][3] for k in numbers]
                    self.assertEqual(len(courses), len(set(courses)))
                    most = max(most, len(numbers))
        self.assertGreater(most, 10)

    def test_d3_pure_just_where_two_are_so_far_apart(self):
        told = 0
        for source, i, t, expected, total in cases(22, 60):
            for ring in range(3):
                distances = expected_distances(expected, ring, total)
                there = sorted({tuple(x) for at_unit in distances for x in at_unit})
                some = source.sample(there, min(6, len(there))) + [(0, 0, 0, 0, 1), (1, 0, 0, 0, 1), (5, -3, 0, 0, 24)]
                for x in some:
                    units = sum(list(x) in at_unit for at_unit in distances)
                    is_interval = x[4] <= 24 and max(map(abs, x[:4])) <= 99
                    self.assertEqual(desk.pure(ring, i, t, list(x)), [units] if is_interval else [-1])
                    told += is_interval and 0 < units < total
        self.assertGreater(told, 200)

    def test_d3_inverse_and_longer_rings(self):
        # Two are x apart just where they are x's inverse apart; what rings longer is pure no less long.
        for source, i, t, expected, total in cases(23, 60):
            for x in ([0, 0, 0, 0, 1], [1, 0, 0, 0, 1], [-1, 1, 0, 0, 1], [1, 0, 0, 0, 2]):
                inverse = [-power for power in x[:4]] + x[4:]
                answers = [desk.pure(ring, i, t, x)[0] for ring in (0, 2, 1)]
                self.assertEqual(answers, [desk.pure(ring, i, t, inverse)[0] for ring in (0, 2, 1)])
                self.assertTrue(0 <= answers[0] <= answers[1] <= answers[2] <= total, answers)


def five_powers(five):
    return [Fraction(power, five[4]) for power in five[:4]]


def expected_score(expected, ring):
    """The answer of score."""
    answers = sorted((rings[ring] for rings in expected),
                     key=lambda answer: (answer[0], width(five_powers(answer[5:])), answer[1]))
    lines = [f"{answer[0]} {answer[1] - answer[0]} {write_interval(five_powers(answer[5:]))}\n" for answer in answers]
    text = as_bytes("".join(lines))
    return [len(text)] + text


def score_lengths(answer):
    """Of each beginning and interval how long its notes sound, as a score's text tells it."""
    lengths = {}
    for line in bytes(answer[1:]).decode("ascii").split("\n")[:-1]:
        begin, length, interval = line.split(" ", 2)
        lengths.setdefault((begin, interval), []).append(int(length))
    return lengths


class SpanAndScore(unittest.TestCase):
    def test_span_tells_the_first_of_the_lowest_and_of_the_highest(self):
        seen = 0
        for source, i, t, expected, total in cases(31, 200):
            widths = [width(five_powers(rings[0][5:])) for rings in expected]
            if not widths:
                self.assertEqual(desk.span(i, t), [-5])
                continue
            answer = desk.span(i, t)
            self.assertEqual(answer, [widths.index(min(widths)), widths.index(max(widths))])
            seen += answer[0] > 0 and answer[1] < len(widths) - 1
        self.assertGreater(seen, 50)

    def test_d1_the_score_tells_each_note_once(self):
        for source, i, t, expected, total in cases(32, 200):
            for ring in range(3):
                self.assertEqual(desk.score(ring, i, t), expected_score(expected, ring))

    def test_d1_and_d4_by_what_note_answers(self):
        longer = 0
        for source, i, t, expected, total in cases(33, 40):
            count = desk.fits(i, t)[0]
            scores = [score_lengths(desk.score(ring, i, t)) for ring in range(3)]
            for ring in range(3):
                notes = [desk.note(ring, k, i, t) for k in range(count)]
                told = {}
                for answer in notes:
                    key = (str(answer[0]), write_interval(five_powers(answer[5:])))
                    told.setdefault(key, []).append(answer[1] - answer[0])
                self.assertEqual(scores[ring], {key: sorted(lengths) for key, lengths in told.items()})
            for key, lengths in scores[0].items():
                for first, second, third in zip(lengths, scores[2][key], scores[1][key], strict=True):
                    self.assertTrue(0 < first <= second <= third, key)
                    longer += first < second < third
        self.assertGreater(longer, 20)


def unit_by_unit(i, t, ring, units):
    """Of each unit the intervals that begin; those that sound; those that sound, with their beginnings."""
    notes = [desk.note(ring, k, i, t) for k in range(desk.fits(i, t)[0])]
    begin, sound, both = [], [], []
    for n in range(units):
        sounding = [notes[k] for k in desk.at(ring, n, i, t)[1:]]
        begin.append(sorted(answer[5:] for answer in sounding if answer[0] == n))
        sound.append(sorted(answer[5:] for answer in sounding))
        both.append(sorted(answer[:1] + answer[5:] for answer in sounding))
    return repr((begin, sound)), repr(both)


class OneScore(unittest.TestCase):
    """D5's first half, of all pieces of three short moments on two courses that sound alike."""

    def all_pieces(self):
        i = as_bytes(instrument(["2"], ["1", "1"]))
        stops = [{}, {1: 0}, {1: 1}, {2: 0}, {2: 1}, {1: 0, 2: 0}, {1: 0, 2: 1}, {1: 1, 2: 0}, {1: 1, 2: 1}]
        for number, moments in enumerate(itertools.product(stops, repeat=3)):
            lines = [(1, moment) for moment in moments]
            if number % 2 == 1:
                lines.insert(2, BAR)
            yield i, as_bytes(piece(KINDS[number % 3], lines))

    def test_d5_scores_are_one_just_if_units_are(self):
        for ring in range(3):
            units_of, score_of, counts_of = {}, {}, {}
            for i, t in self.all_pieces():
                text = tuple(desk.score(ring, i, t))
                counts, units = unit_by_unit(i, t, ring, 3)
                self.assertEqual(units_of.setdefault(text, units), units)
                self.assertEqual(score_of.setdefault(units, text), text)
                self.assertEqual(counts_of.setdefault(text, counts), counts)
            self.assertGreater(len(score_of), 100)

    def test_d5_which_of_two_ends_first_is_told(self):
        # One begins at 0, one at 1, as high; at 2 one of them ends. At each unit as many begin and as many sound,
        # but not for as long: the scores' lines differ.
        i = as_bytes(instrument(["2"], ["1", "1"]))
        first = as_bytes(piece("french", [(1, {1: 0}), (1, {2: 0}), (1, {1: 1})]))
        second = as_bytes(piece("french", [(1, {1: 0}), (1, {2: 0}), (1, {2: 1})]))
        one, other = (unit_by_unit(i, t, 1, 3) for t in (first, second))
        self.assertEqual(one[0], other[0])
        self.assertNotEqual(one[1], other[1])
        self.assertEqual(desk.score(1, i, first)[1:], as_bytes("0 2 1\n1 2 1\n2 1 2\n"))
        self.assertEqual(desk.score(1, i, second)[1:], as_bytes("0 3 1\n1 1 1\n2 1 2\n"))
