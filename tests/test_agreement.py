"""D1 to D5 by calls that must agree with one another: what note answers of each note settles all the rest."""

import itertools
import random
import unittest
from fractions import Fraction

from lutesounds import desk
from tests.helper import BAR, KINDS, as_bytes, instrument, piece
from tests.test_promises import cases, five_numbers, five_powers, random_lines, random_lute, width, write_interval

UNISON = [0, 0, 0, 0, 1]
OCTAVE = [1, 0, 0, 0, 1]


def notes_of(ring, i, t):
    """What note answers of each note, so many as fits tells; of the next one it answers -4."""
    count = desk.fits(i, t)[0]
    assert desk.note(ring, count, i, t) == [-4]
    return [desk.note(ring, k, i, t) for k in range(count)]


def upon(x, five):
    return five_numbers([p + q for p, q in zip(five_powers(x), five_powers(five))])


def inverse(x):
    return [-power for power in x[:4]] + x[4:]


def is_interval(five):
    return five[4] <= 24 and max(map(abs, five[:4])) <= 99


def read_score(answer):
    """A score's lines as beginnings, lengths and five numbers; None if it isn't as long as it says."""
    if answer[0] != len(answer) - 1:
        return None
    lines = []
    for line in bytes(answer[1:]).decode("ascii").split("\n")[:-1]:
        begin, length, text = line.split(" ", 2)
        powers = dict.fromkeys("2357", Fraction(0))
        for factor in text.split(" ") if text != "1" else []:
            digit, sign, power = factor.partition("^")
            powers[digit] = Fraction(power or "1")
        lines.append([int(begin), int(length), five_numbers(list(powers.values()))])
    return lines


def total_of(t):
    """How many units a piece lasts: what a note that nothing ends would tell, read from its text's signs."""
    lengths = dict(zip("xtseqhw", (1, 2, 4, 8, 16, 32, 64)))
    total = length = 0
    for line in bytes(t).decode("ascii").split("\n")[1:-1]:
        if line != "|":
            sign = line.partition(" ")[0]
            if sign:
                length = lengths[sign[0]] * (3 if "." in sign else 2) // 2
            total += length
    return total


class Agreement(unittest.TestCase):
    def test_d1_ends_and_order(self):
        for source, i, t, expected, total in cases(41, 25):
            total = total_of(t)
            by_ring = [notes_of(ring, i, t) for ring in range(3)]
            for notes in by_ring:
                places = [tuple(answer[2:4]) for answer in notes]
                self.assertEqual(len(places), len(set(places)))
                keys = [(answer[0], width(five_powers(answer[5:])), answer[3]) for answer in notes]
                self.assertEqual(keys, sorted(keys))
                self.assertTrue(all(answer[0] < answer[1] <= total for answer in notes))
            # What is told of a note but its end is told by all ways of ringing alike; by 0, 2, 1 it's no shorter.
            for first, second, third in zip(by_ring[0], by_ring[2], by_ring[1], strict=True):
                self.assertEqual(first[:1] + first[2:], second[:1] + second[2:])
                self.assertEqual(first[:1] + first[2:], third[:1] + third[2:])
                self.assertTrue(first[1] <= second[1] <= third[1])
                again = [answer[0] for answer in by_ring[0] if answer[3] == first[3] and answer[0] > first[0]]
                self.assertEqual(third[1], min(again, default=total))

    def test_d2_at(self):
        for source, i, t, expected, total in cases(42, 15):
            total = total_of(t)
            for ring in range(3):
                notes = notes_of(ring, i, t)
                units = {edge + step for answer in notes for edge in answer[:2] for step in (-1, 0, 1)}
                for n in source.sample(sorted(units - {-1}), min(15, len(units - {-1}))) + [0, total - 1, total]:
                    answer = desk.at(ring, n, i, t)
                    numbers = [k for k, note in enumerate(notes) if note[0] <= n < note[1]]
                    self.assertEqual(answer, [len(numbers)] + numbers)
                    courses = [notes[k][3] for k in numbers]
                    self.assertEqual(len(courses), len(set(courses)))

    def test_d3_pure(self):
        told = 0
        for source, i, t, expected, total in cases(43, 12):
            for ring in range(3):
                notes = notes_of(ring, i, t)
                edges = sorted({edge for note in notes for edge in note[:2]})
                spans = [(n, after - n, [notes[k] for k in desk.at(ring, n, i, t)[1:]])
                         for n, after in zip(edges, edges[1:])]
                some = [UNISON, OCTAVE, [-1, 1, 0, 0, 1]]
                for first, second in itertools.islice(itertools.permutations(notes, 2), 4):
                    some.append(upon(inverse(first[5:]), second[5:]))
                for x in some:
                    if not is_interval(x):
                        continue
                    units = sum(length for n, length, sounding in spans
                                if any(upon(x, a[5:]) == b[5:] for a, b in itertools.permutations(sounding, 2)))
                    self.assertEqual(desk.pure(ring, i, t, x), [units])
                    told += units > 0
        self.assertGreater(told, 50)

    def test_span(self):
        for source, i, t, expected, total in cases(44, 60):
            notes = notes_of(0, i, t)
            answer = desk.span(i, t)
            if not notes:
                self.assertEqual(answer, [-5])
                continue
            widths = [width(five_powers(note[5:])) for note in notes]
            self.assertEqual(answer, [widths.index(min(widths)), widths.index(max(widths))])

    def test_score(self):
        for source, i, t, expected, total in cases(45, 25):
            for ring in range(3):
                lines = [[note[0], note[1] - note[0], note[5:]] for note in notes_of(ring, i, t)]
                lines.sort(key=lambda line: (line[0], width(five_powers(line[2])), line[1]))
                self.assertEqual(read_score(desk.score(ring, i, t)), lines)


def write_lute(lute):
    return as_bytes(instrument(*[[write_interval(p) for p in part] for part in lute]))


def raise_part(part, x):
    return [tuple(p + q for p, q in zip(powers, five_powers(x))) for powers in part]


class Raised(unittest.TestCase):
    """D5's second half: of open strings raised by x all that's told is raised, and all else told is as it was."""

    def raised_cases(self, seed, count):
        source = random.Random(seed)
        found = 0
        while found < count:
            frets, courses, basses = random_lute(source)
            lines = random_lines(source, frets, courses, basses)
            x = list(source.choice(((1, 0, 0, 0, 1), (-1, 1, 0, 0, 1), (0, 0, -1, 0, 1), (1, 0, 0, 0, 2),
                                    (0, 0, 0, -1, 3), (-7, 0, 0, 0, 12), (1, 0, -1, 0, 24), (0, 2, 0, 3, 5))))
            i = write_lute((frets, courses, basses))
            j = write_lute((frets, raise_part(courses, x), raise_part(basses, x)))
            t = as_bytes(piece(KINDS[found % 3], lines))
            # Some are raised out of an interval's bounds.
            if desk.fits(j, t) != [-6]:
                found += 1
                yield source, i, j, t, lines, x

    def test_d5_all_is_raised(self):
        notes_seen = 0
        for source, i, j, t, lines, x in self.raised_cases(51, 18):
            self.assertEqual(desk.fits(i, t), desk.fits(j, t))
            self.assertEqual(desk.span(i, t), desk.span(j, t))
            for ring in range(3):
                notes = notes_of(ring, i, t)
                self.assertEqual([note[:5] + upon(x, note[5:]) for note in notes], notes_of(ring, j, t))
                for n in (0, 1, 16, 17, 50):
                    self.assertEqual(desk.at(ring, n, i, t), desk.at(ring, n, j, t))
                for y in (UNISON, OCTAVE, x):
                    self.assertEqual(desk.pure(ring, i, t, y), desk.pure(ring, j, t, y))
                score = [[begin, length, upon(x, five)] for begin, length, five in read_score(desk.score(ring, i, t))]
                self.assertEqual(read_score(desk.score(ring, j, t)), score)
                notes_seen += len(notes)
        self.assertGreater(notes_seen, 1000)

    def test_d5_same_is_told_just_of_that_x(self):
        for source, i, j, t, lines, x in self.raised_cases(52, 60):
            u = as_bytes(piece(source.choice(KINDS), lines))
            none = int(desk.fits(i, t) == [0])
            for ring in range(3):
                self.assertEqual(desk.same(ring, i, t, j, u, x), [1])
                self.assertEqual(desk.same(ring, j, u, i, t, inverse(x)), [1])
                self.assertEqual(desk.same(ring, i, t, i, u, UNISON), [1])
                for y in (UNISON, inverse(x), [0, 0, 0, 1, 23]):
                    self.assertEqual(desk.same(ring, i, t, j, u, y), [none])
                self.assertEqual(desk.same(ring, i, t, i, u, x), [none])

    def test_d5_same_by_one_score_and_the_other(self):
        """Pieces that differ in one line: told to be the same just where the scores' lines are."""
        answers = {0: 0, 1: 0}
        for source, i, j, t, lines, x in self.raised_cases(53, 90):
            changed = list(lines)
            number = source.randrange(len(changed))
            if changed[number] is BAR:
                changed.pop(number)
            elif source.random() < 0.5:
                changed.insert(number, BAR)
            else:
                stops = dict(changed[number][1])
                stops.pop(source.choice(sorted(stops) or [0]), None)
                changed[number] = (changed[number][0], stops)
            u = as_bytes(piece("italian", changed))
            for ring in range(3):
                raised = [[begin, length, upon(x, five)] for begin, length, five in read_score(desk.score(ring, i, t))]
                expected = int(read_score(desk.score(ring, j, u)) == raised)
                self.assertEqual(desk.same(ring, i, t, j, u, x), [expected])
                answers[expected] += 1
        self.assertGreater(min(answers.values()), 30, answers)


class SmallPieces(unittest.TestCase):
    """All pieces of two moments on two courses an octave apart, and on two that sound alike, against one another."""

    def test_d5_same_just_if_they_sound_alike_throughout(self):
        lutes = [as_bytes(instrument(["2"], courses)) for courses in (["1", "1"], ["2", "1"])]
        stops = [{}, {1: 0}, {1: 1}, {2: 0}, {2: 1}, {1: 0, 2: 0}, {1: 0, 2: 1}, {1: 1, 2: 0}, {1: 1, 2: 1}]
        pieces = [as_bytes(piece(KINDS[number % 3], [(1, moment) for moment in moments]))
                  for number, moments in enumerate(itertools.product(stops, repeat=2))]
        told = {}
        for ring in (0, 1):
            for i, t in itertools.product(lutes, pieces):
                sounding = []
                notes = notes_of(ring, i, t)
                for n in range(2):
                    numbers = desk.at(ring, n, i, t)[1:]
                    sounding.append(sorted((notes[k][0], notes[k][5]) for k in numbers))
                told[ring, tuple(i), tuple(t)] = sounding
        source = random.Random(61)
        seen = {0: 0, 1: 0}
        for ring in (0, 1):
            for i, j in itertools.product(lutes, repeat=2):
                for t, u in source.sample(list(itertools.product(pieces, repeat=2)), 700):
                    for octaves in (-1, 0, 1):
                        raised = [[(begin, power + octaves) for begin, power in at_unit]
                                  for at_unit in told[ring, tuple(i), tuple(t)]]
                        expected = int(raised == told[ring, tuple(j), tuple(u)])
                        self.assertEqual(desk.same(ring, i, t, j, u, [octaves, 0, 0, 0, 1]), [expected])
                        seen[expected] += 1
        self.assertGreater(seen[1], 100)
