"""The score of a piece on an instrument, by a way of ringing."""

from lutesounds.intervals import upon
from lutesounds.intervaltexts import write_interval
from lutesounds.notes import ends_of


def score_entries(notes, lines, ring):
    """Of each note its beginning, how many units it sounds and its interval, in the score's order."""
    ends = ends_of(notes, lines, ring)
    # Of one beginning and interval the notes' own order is by courses, the score's by how long they are.
    keyed = [(note.begin, note.height, ends[k] - note.begin, note.interval) for k, note in enumerate(notes)]
    return [(begin, length, interval) for begin, height, length, interval in sorted(keyed)]


def raised_entries(entries, x):
    """The entries with each interval raised by x. All being raised alike, they stay in order.

    What is raised out of an interval's bounds stays as five numbers that no note sounds.
    """
    return [(begin, length, upon(x, interval)) for begin, length, interval in entries]


def write_score(entries):
    """The score's text, as bytes."""
    lines = [write_entry(begin, length, interval) for begin, length, interval in entries]
    return [ord(sign) for sign in "".join(lines)]


def write_entry(begin, length, interval):
    text = write_interval(interval)
    return f"{begin} {length} {text}\n"
