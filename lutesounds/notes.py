"""The notes of a piece on an instrument that it fits."""

from lutesounds.intervals import ranks
from lutesounds.refusals import Misfit

RING_MOMENT = 0
RING_BAR = 2


class Note:
    """A stop and what it sounds. When it ends depends on the way of ringing: ends_of tells it.

    Its height is its interval's rank among those of its piece, which compares in the interval's place.
    """

    def __init__(self, begin, line, stop, interval, height):
        self.begin = begin
        self.line = line
        self.course = stop[0]
        self.fret = stop[1]
        self.interval = interval
        self.height = height


def check_fit(instrument, lines):
    """Misfit if a stop is none of the instrument's places."""
    for number, line in enumerate(lines):
        for stop in line.stops:
            if not instrument.has_place(stop[0], stop[1]):
                raise Misfit(number, stop[0])


def count_notes(lines):
    return sum([len(line.stops) for line in lines])


def beginnings(lines):
    """The unit at which each line begins, a bar where it stands, and behind them that at which the piece ends."""
    unit = 0
    units = [0]
    for line in lines:
        unit += line.length
        units.append(unit)
    return units


def sounds_of(instrument, lines):
    """A dict of each stop of the piece and the interval that it sounds."""
    sounds = {}
    for line in lines:
        for stop in line.stops:
            if stop not in sounds:
                sounds[stop] = instrument.sound(stop[0], stop[1])
    return sounds


def notes_in_order(instrument, lines):
    """All notes of a piece that fits."""
    units = beginnings(lines)
    sounds = sounds_of(instrument, lines)
    heights = ranks(list(sounds.values()))
    notes = []
    for number, line in enumerate(lines):
        for stop in line.stops:
            interval = sounds[stop]
            notes.append(Note(units[number], number, stop, interval, heights[interval]))
    return sorted(notes, key=lambda note: (note.begin, note.height, note.course))


def lowest_and_highest(notes):
    """The number of the lowest note and that of the highest one; of as low, as high ones the first."""
    heights = [note.height for note in notes]
    return [heights.index(min(heights)), heights.index(max(heights))]


def end_line(note, lines, ring):
    """The number of the line at whose beginning a note ends; where the piece ends, that behind the last one."""
    if ring == RING_MOMENT:
        return note.line + 1
    for number in range(note.line + 1, len(lines)):
        if ring == RING_BAR and lines[number].is_bar():
            return number
        if lines[number].strikes(note.course):
            return number
    return len(lines)


def ends_of(notes, lines, ring):
    """Of each of the notes the unit at which it ends."""
    units = beginnings(lines)
    return [units[end_line(note, lines, ring)] for note in notes]
