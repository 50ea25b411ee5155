"""The calls. Each answers a list of whole numbers, a refusal one below 0."""

from lutesounds.instruments import read_instrument
from lutesounds.intervals import is_interval
from lutesounds.notes import check_fit, count_notes, ends_of, lowest_and_highest, notes_in_order
from lutesounds.pieces import read_piece
from lutesounds.refusals import Misfit, NoInstrument, NoNote, NoOtherInstrument, NoOtherPiece, NoPiece
from lutesounds.refusals import NoSuchChoice, NoSuchNote, Refusal, TextFault, TooLong
from lutesounds.scores import raised_entries, score_entries, write_score
from lutesounds.sounding import pure_units, sounding_at

MOST_INSTRUMENT_BYTES = 4096
MOST_PIECE_BYTES = 65536
MOST_RING = 2


class Tablature:
    """An instrument and a piece's lines. Whether the piece fits is looked at later: other refusals come first."""

    def __init__(self, instrument, lines):
        self.instrument = instrument
        self.lines = lines


def fits(i, t):
    """How many notes the piece t has on the instrument i; or -3, the first misfit's line and its course."""
    try:
        tablature = read_tablature(i, t)
        check_fit(tablature.instrument, tablature.lines)
    except Misfit as misfit:
        return [misfit.answer, misfit.line, misfit.course]
    except Refusal as refusal:
        return [refusal.answer]
    return [count_notes(tablature.lines)]


def note(ring, k, i, t):
    """Of note k: its beginning, its end, its line, its course, its fret, its interval's five numbers."""
    try:
        tablature = read_tablature(i, t)
        check_ring(ring)
        found = note_of(fitting_notes(tablature), k)
    except Refusal as refusal:
        return [refusal.answer]
    ends = ends_of([found], tablature.lines, ring)
    return [found.begin, ends[0], found.line, found.course, found.fret] + list(found.interval)


def at(ring, n, i, t):
    """How many notes sound at unit n, then their numbers, rising."""
    try:
        tablature = read_tablature(i, t)
        check_ring(ring)
        notes = fitting_notes(tablature)
    except Refusal as refusal:
        return [refusal.answer]
    numbers = sounding_at(notes, tablature.lines, ring, n)
    return [len(numbers)] + numbers


def pure(ring, i, t, x):
    """At how many units two notes sound of which the second one's interval is x upon the first one's."""
    try:
        tablature = read_tablature(i, t)
        check_ring(ring)
        check_interval(x)
        notes = fitting_notes(tablature)
    except Refusal as refusal:
        return [refusal.answer]
    return [pure_units(notes, tablature.lines, ring, x)]


def span(i, t):
    """The number of the lowest note, then that of the highest one."""
    try:
        notes = fitting_notes(read_tablature(i, t))
        check_any(notes)
    except Refusal as refusal:
        return [refusal.answer]
    return lowest_and_highest(notes)


def score(ring, i, t):
    """How many bytes the score has, then these."""
    try:
        tablature = read_tablature(i, t)
        check_ring(ring)
        entries = fitting_entries(tablature, ring)
    except Refusal as refusal:
        return [refusal.answer]
    written = write_score(entries)
    return [len(written)] + written


def same(ring, i, t, j, u, x):
    """1 if the score of u on j is that of t on i with each interval raised by x, else 0."""
    try:
        check_sizes(i, t)
        check_sizes(j, u)
        first = tablature_of(i, t)
        second = other_tablature_of(j, u)
        check_ring(ring)
        check_interval(x)
        entries = fitting_entries(first, ring)
        others = fitting_entries(second, ring)
    except Refusal as refusal:
        return [refusal.answer]
    return [1 if others == raised_entries(entries, x) else 0]


def read_tablature(i, t):
    check_sizes(i, t)
    return tablature_of(i, t)


def tablature_of(i, t):
    instrument = instrument_of(i)
    return Tablature(instrument, piece_of(t))


def other_tablature_of(j, u):
    """As tablature_of, but refused by the numbers of the second one of two."""
    try:
        return tablature_of(j, u)
    except NoInstrument:
        raise NoOtherInstrument() from None
    except NoPiece:
        raise NoOtherPiece() from None


def check_sizes(i, t):
    if len(i) > MOST_INSTRUMENT_BYTES or len(t) > MOST_PIECE_BYTES:
        raise TooLong()


def instrument_of(text):
    try:
        return read_instrument(text)
    except TextFault:
        raise NoInstrument() from None


def piece_of(text):
    try:
        return read_piece(text)
    except TextFault:
        raise NoPiece() from None


def check_ring(ring):
    if ring > MOST_RING:
        raise NoSuchChoice()


def check_interval(x):
    if not is_interval(x):
        raise NoSuchChoice()


def fitting_notes(tablature):
    """The notes in order; Misfit if the piece doesn't fit."""
    check_fit(tablature.instrument, tablature.lines)
    return notes_in_order(tablature.instrument, tablature.lines)


def fitting_entries(tablature, ring):
    """The score's entries; Misfit if the piece doesn't fit."""
    notes = fitting_notes(tablature)
    return score_entries(notes, tablature.lines, ring)


def check_any(notes):
    if len(notes) == 0:
        raise NoNote()


def note_of(notes, k):
    if k >= len(notes):
        raise NoSuchNote()
    return notes[k]
