"""Instruments, their places and their texts."""

from lutesounds.intervals import UNISON, is_interval, narrower, upon
from lutesounds.intervaltexts import read_interval
from lutesounds.reader import Reader
from lutesounds.refusals import TextFault

LEAST_LENGTH = 10000
GREATEST_LENGTH = 200000
LENGTH_DIGITS = 7
MOST_FRETS = 15
MOST_STRINGS = 14
LINE_FEED = 10


class Instrument:
    """Frets, courses and basses, each an interval. The strings' length is not kept: no call asks for it."""

    def __init__(self):
        self.frets = []
        self.courses = []
        self.basses = []

    def string_count(self):
        return len(self.courses) + len(self.basses)

    def has_place(self, course, fret):
        if course <= len(self.courses):
            return fret <= len(self.frets)
        return course <= self.string_count() and fret == 0

    def sound(self, course, fret):
        """The interval of a place."""
        if course > len(self.courses):
            return self.basses[course - len(self.courses) - 1]
        if fret == 0:
            return self.courses[course - 1]
        return upon(self.frets[fret - 1], self.courses[course - 1])


def read_instrument(text):
    """The instrument that the text tells; TextFault where it is at fault."""
    reader = Reader(text, 0, len(text))
    read_length(reader)
    instrument = Instrument()
    while not reader.ended() or len(instrument.courses) == 0:
        read_line(reader, instrument)
    return instrument


def read_length(reader):
    reader.skip("length ")
    start = reader.place
    if reader.sees("0"):
        raise TextFault(start)
    length = reader.whole_number(LENGTH_DIGITS)
    if length < LEAST_LENGTH or length > GREATEST_LENGTH:
        raise TextFault(start)
    reader.skip("\n")


def read_line(reader, instrument):
    if reader.sees("f") and len(instrument.courses) == 0:
        read_fret(reader, instrument)
    elif reader.sees("c") and len(instrument.basses) == 0:
        read_course(reader, instrument)
    elif reader.sees("b") and len(instrument.courses) > 0:
        read_bass(reader, instrument)
    else:
        raise TextFault(reader.place)
    reader.skip("\n")


def read_fret(reader, instrument):
    skip_word(reader, "fret", len(instrument.frets) < MOST_FRETS)
    start = reader.place
    fret = read_rest(reader)
    before = instrument.frets[-1] if len(instrument.frets) > 0 else UNISON
    if not narrower(before, fret):
        raise TextFault(start)
    instrument.frets.append(fret)


def read_course(reader, instrument):
    skip_word(reader, "course", instrument.string_count() < MOST_STRINGS)
    start = reader.place
    course = read_rest(reader)
    for fret in instrument.frets:
        if not is_interval(upon(fret, course)):
            raise TextFault(start)
    instrument.courses.append(course)


def read_bass(reader, instrument):
    skip_word(reader, "bass", instrument.string_count() < MOST_STRINGS)
    instrument.basses.append(read_rest(reader))


def skip_word(reader, word, more_may_come):
    """Go over a line's first word and its blank, if one more line of it may come."""
    start = reader.place
    reader.skip(word)
    if not more_may_come:
        raise TextFault(start)
    reader.skip(" ")


def read_rest(reader):
    """Go over the rest of the line, up to its line feed, which is an interval's text."""
    end = reader.place
    while end < reader.end and reader.text[end] != LINE_FEED:
        end += 1
    interval = read_interval(reader.text, reader.place, end)
    reader.place = end
    return interval
