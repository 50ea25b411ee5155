"""Pieces and their texts."""

from lutesounds.reader import Reader
from lutesounds.refusals import TextFault
from lutesounds.stops import read_french_stops, read_german_stops, read_italian_stops

MOST_LINES = 512
LENGTH_SIGNS = "xtseqhw"
LENGTHS = (1, 2, 4, 8, 16, 32, 64)
KIND_WORDS = ("french\n", "italian\n", "german\n")
FRENCH = 0
ITALIAN = 1


class Line:
    """A moment: its length and its stops. A bar is a line that lasts nothing: its length is 0."""

    def __init__(self, length, stops):
        self.length = length
        self.stops = stops

    def is_bar(self):
        return self.length == 0

    def strikes(self, course):
        for stop in self.stops:
            if stop[0] == course:
                return True
        return False


def read_piece(text):
    """The lines of the piece that the text tells; TextFault where it is at fault."""
    reader = Reader(text, 0, len(text))
    kind = read_kind(reader)
    lines = []
    length = 0
    while not reader.ended():
        if len(lines) == MOST_LINES:
            raise TextFault(reader.place)
        line = read_line(reader, kind, length)
        if not line.is_bar():
            length = line.length
        lines.append(line)
    if length == 0:
        raise TextFault(len(text))
    return lines


def read_kind(reader):
    """Which kind the first line tells. The three words' first letters differ, so the first one settles it."""
    for kind, word in enumerate(KIND_WORDS):
        if reader.sees(word[0]):
            reader.skip(word)
            return kind
    raise TextFault(reader.place)


def read_line(reader, kind, before):
    """A line; before is the length of the moment before it, 0 if there is none."""
    if reader.sees("|"):
        reader.skip("|\n")
        return Line(0, [])
    length = read_length(reader, before)
    stops = read_stops(reader, kind)
    reader.skip("\n")
    return Line(length, stops)


def read_length(reader, before):
    """Go over a length's sign, if it is there, and the blank behind it."""
    start = reader.place
    if reader.sees(" "):
        if before == 0:
            raise TextFault(start)
        reader.skip(" ")
        return before
    length = LENGTHS[reader.pick(LENGTH_SIGNS)]
    if length > 1 and reader.sees("."):
        reader.skip(".")
        length += length // 2
    reader.skip(" ")
    if length == before:
        raise TextFault(start)
    return length


def read_stops(reader, kind):
    if kind == FRENCH:
        return read_french_stops(reader)
    if kind == ITALIAN:
        return read_italian_stops(reader)
    return read_german_stops(reader)
