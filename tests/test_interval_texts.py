import itertools
import math
import random
import re
import unittest
from fractions import Fraction

from lutesounds import desk
from lutesounds.intervals import is_interval
from lutesounds.intervaltexts import read_interval, write_interval
from lutesounds.refusals import TextFault
from tests.helper import as_bytes, fault, instrument, piece

ONE_NOTE = piece("german", [(1, {1: 0})])

GOOD = {
    "1": [0, 0, 0, 0, 1],
    "2": [1, 0, 0, 0, 1],
    "3": [0, 1, 0, 0, 1],
    "5": [0, 0, 1, 0, 1],
    "7": [0, 0, 0, 1, 1],
    "2^-1 3": [-1, 1, 0, 0, 1],
    "2^7/12": [7, 0, 0, 0, 12],
    "2 3 5 7": [1, 1, 1, 1, 1],
    "2^-99 7^99": [-99, 0, 0, 99, 1],
    "3^-99 5^99": [0, -99, 99, 0, 1],
    "2^99/2 3^-97/2": [99, -97, 0, 0, 2],
    "2^1/24": [1, 0, 0, 0, 24],
    "2^1/8 3^1/3": [3, 8, 0, 0, 24],
    "2^-1/2": [-1, 0, 0, 0, 2],
    "2 5^1/2": [2, 0, 1, 0, 2],
    "5^10 7^-10": [0, 0, 10, -10, 1],
    "2^25/24": [25, 0, 0, 0, 24],
}

# Of each text the place where it is at fault.
BAD = {
    "": 0,
    # A byte that can't stand there.
    "x": 0, " ": 0, "0": 0, "4": 0, "9": 0, "^": 0, "-1": 0, " 2": 0, "\x00": 0, "\xff": 0,
    "11": 1, "1 ": 1, "1 2": 1, "1^2": 1, "12": 1,
    "2x": 1, "23": 1, "2/2": 1, "2-": 1, "2  3": 2, "2 1": 2, "2 x": 2, "2 4": 2,
    "2^x": 2, "2^ 3": 2, "2^/2": 2, "2^+2": 2, "2^^2": 2,
    "2^-x": 3, "2^--1": 3, "2^-0": 3, "2^-01": 3, "2^-/2": 3,
    "2^00": 3, "2^01": 3, "2^02/3": 3, "2^12345": 6, "2^-12345": 7, "2^99999": 6,
    "2^1/x": 4, "2^1/-2": 4, "2^1/ ": 4, "2^1/02": 5, "2^1/00": 5, "2^1/12345": 8,
    "2^1/2/3": 5, "2^1/2x": 5, "2^1/2^3": 5, "2^2x": 3, "2^2-": 3, "2^2^2": 3,
    # More must come.
    "2 ": 2, "2^": 2, "2^-": 3, "2^1/": 4, "2^-1/": 5, "2^-1 ": 5,
    # Factors in a wrong order, the place of the factor's digit, before what follows.
    "2 2": 2, "3 2": 2, "7 5": 2, "3 2 5": 2, "3 2x": 2, "2^2 2^3": 4, "5 3^2": 2, "5 3^2x": 2, "2 3 2": 4,
    # .. but what can't stand within the factor is found before it stands whole.
    "3 2^x": 4, "3 2^": 4, "3 2^05": 5,
    # A power that is 0, or told though it is 1.
    "2^0": 0, "2^1": 0, "2^0 3": 0, "2^1 3": 0, "2^1x": 0, "2^0x": 0, "3 5^1": 2, "3 5^0": 2,
    # A fraction that is not in lowest terms, or with d 0 or 1.
    "2^2/4": 0, "2^2/2": 0, "2^0/2": 0, "2^-3/3": 0, "2^6/4x": 0, "2^1/0": 0, "2^3/1": 0, "2^-3/1": 0,
    "2^0/1": 0, "2^0/0": 0, "2^1/1": 0, "2^2/0": 0, "3 5^4/6": 2, "2^2/4/": 0, "2^9999/9999": 0,
    # Of the right form, but no interval: the length.
    "2^100": 5, "2^-100": 6, "3^100": 5, "5^100": 5, "7^-100": 6, "2^9999": 6, "2^-9999": 7,
    "2^1/25": 6, "2^1/9999": 8, "2^9998/9999": 11, "2^1/5 3^1/7": 11, "2^50 3^1/2": 10, "2^-99 3^1/2": 11,
    "2^101/2": 7, "2^100 3": 7,
    # .. and what can't stand is found first.
    "2^100 ": 6, "2^100x": 5, "2^1/25 x": 7,
}


def read(text):
    return read_interval(text, 0, len(text))


def by_the_form(text):
    """The interval of a text, found in another way; None if it is at fault."""
    if text == "1":
        return (0, 0, 0, 0, 1)
    powers = [Fraction(0)] * 4
    for factor in text.split(" "):
        found = re.fullmatch(r"([2357])(?:\^(0|-?[1-9][0-9]{0,3})(?:/(0|[1-9][0-9]{0,3}))?)?", factor)
        if not found or found[3] == "0":
            return None
        power = Fraction(int(found[2] or 1), int(found[3] or 1))
        powers["2357".index(found[1])] = power
    written = []
    for digit, power in zip("2357", powers):
        if power == 1:
            written.append(digit)
        elif power != 0:
            written.append(f"{digit}^{power}")
    d = math.lcm(*[power.denominator for power in powers])
    numbers = tuple(int(power * d) for power in powers) + (d,)
    if " ".join(written) != text or d > 24 or max(map(abs, numbers[:4])) > 99:
        return None
    return numbers


class IntervalTexts(unittest.TestCase):
    def test_good_ones(self):
        for text, interval in GOOD.items():
            self.assertEqual(list(read(as_bytes(text))), interval, text)

    def test_good_ones_by_the_call(self):
        for text, interval in GOOD.items():
            answer = desk.note(0, 0, as_bytes(instrument(courses=[text])), as_bytes(ONE_NOTE))
            self.assertEqual(answer[5:], interval, text)

    def test_places_of_faults(self):
        for text, place in BAD.items():
            self.assertEqual(fault(read, text), place, repr(text))

    def test_bad_ones_by_the_calls(self):
        for text in BAD:
            i = as_bytes(instrument(courses=[text]))
            self.assertEqual(desk.fits(i, as_bytes(ONE_NOTE)), [-6], repr(text))
            self.assertEqual(desk.note(0, 0, i, as_bytes(ONE_NOTE)), [-6], repr(text))

    def test_place_within_a_longer_text(self):
        text = as_bytes("3 5 2 7")
        self.assertEqual(read_interval(text, 0, 3), (0, 1, 1, 0, 1))
        self.assertEqual(read_interval(text, 4, 7), (1, 0, 0, 1, 1))
        with self.assertRaises(TextFault) as caught:
            read_interval(text, 2, 7)
        self.assertEqual(caught.exception.place, 4)
        with self.assertRaises(TextFault) as caught:
            read_interval(text, 0, 2)
        self.assertEqual(caught.exception.place, 2)

    def test_all_short_texts(self):
        for length in range(6):
            for signs in itertools.product("0123^-/ ", repeat=length):
                text = "".join(signs)
                expected = by_the_form(text)
                found = None
                try:
                    found = read(as_bytes(text))
                except TextFault:
                    pass
                self.assertEqual(found, expected, repr(text))


class Writing(unittest.TestCase):
    def test_good_ones(self):
        for text, interval in GOOD.items():
            self.assertEqual(write_interval(tuple(interval)), text)

    def assert_read_again(self, interval):
        text = write_interval(interval)
        self.assertEqual(read(as_bytes(text)), interval, text)
        self.assertEqual(by_the_form(text), interval, text)

    def test_each_power_and_each_d(self):
        for power in range(-99, 100):
            for d in range(1, 25):
                if math.gcd(power, d) == 1:
                    for k in range(4):
                        self.assert_read_again((0,) * k + (power,) + (0,) * (3 - k) + (d,))

    def test_different_parts_of_one_d(self):
        self.assertEqual(write_interval((6, 10, 15, 0, 12)), "2^1/2 3^5/6 5^5/4")
        self.assertEqual(write_interval((12, -12, 24, 1, 12)), "2 3^-1 5^2 7^1/12")
        self.assertEqual(write_interval((3, 8, 0, 0, 24)), "2^1/8 3^1/3")
        self.assertEqual(write_interval((0, -72, 48, 1, 24)), "3^-3 5^2 7^1/24")
        self.assertEqual(write_interval((99, -99, 98, 0, 24)), "2^33/8 3^-33/8 5^49/12")

    def test_what_is_written_is_read_as_what_it_was_written_of(self):
        source = random.Random(31)
        seen = 0
        while seen < 3000:
            greatest = source.choice((1, 3, 24, 99))
            interval = tuple([source.choice((0, source.randint(-greatest, greatest))) for k in range(4)]
                             + [source.randint(1, 24)])
            if is_interval(interval):
                self.assert_read_again(interval)
                seen += 1
