"""Which notes sound at which units, of a piece's notes in order."""

from lutesounds.intervals import upon
from lutesounds.notes import end_line, ends_of


def sounding_at(notes, lines, ring, unit):
    """The numbers of the notes that sound at a unit, rising."""
    ends = ends_of(notes, lines, ring)
    return [k for k, note in enumerate(notes) if note.begin <= unit < ends[k]]


def pure_units(notes, lines, ring, x):
    """At how many units two notes sound of which the second one's interval is x upon the first one's."""
    total = 0
    for line, intervals in zip(lines, intervals_by_line(notes, lines, ring)):
        if has_pair(intervals, x):
            total += line.length
    return total


def intervals_by_line(notes, lines, ring):
    """Of each line the intervals of the notes that sound while it lasts.

    Notes begin and end only where lines do, so what holds at one unit of a line holds at all of them.
    """
    sounding = [[] for line in lines]
    for note in notes:
        for number in range(note.line, end_line(note, lines, ring)):
            sounding[number].append(note.interval)
    return sounding


def has_pair(intervals, x):
    """Whether one of the intervals is x upon another one of them."""
    for k, first in enumerate(intervals):
        # Each is the unison upon itself, but one note alone is not two.
        others = intervals[:k] + intervals[k + 1:]
        if upon(x, first) in others:
            return True
    return False
