"""The calls. Each answers a list of whole numbers, a refusal one below 0."""

from lutesounds.instruments import read_instrument
from lutesounds.notes import check_fit, count_notes, end_of, notes_in_order
from lutesounds.pieces import read_piece
from lutesounds.refusals import Misfit, NoInstrument, NoPiece, NoSuchChoice, NoSuchNote, Refusal, TextFault, TooLong

MOST_INSTRUMENT_BYTES = 4096
MOST_PIECE_BYTES = 65536
MOST_RING = 2


def fits(i, t):
    """How many notes the piece t has on the instrument i; or -3, the first misfit's line and its course."""
    try:
        check_sizes(i, t)
        instrument = instrument_of(i)
        lines = piece_of(t)
        check_fit(instrument, lines)
    except Misfit as misfit:
        return [misfit.answer, misfit.line, misfit.course]
    except Refusal as refusal:
        return [refusal.answer]
    return [count_notes(lines)]


def note(ring, k, i, t):
    """Of note k: its beginning, its end, its line, its course, its fret, its interval's five numbers."""
    try:
        check_sizes(i, t)
        instrument = instrument_of(i)
        lines = piece_of(t)
        check_ring(ring)
        check_fit(instrument, lines)
        found = note_of(notes_in_order(instrument, lines), k)
    except Refusal as refusal:
        return [refusal.answer]
    return [found.begin, end_of(found, lines, ring), found.line, found.course, found.fret] + list(found.interval)


def check_sizes(i, t):
    if len(i) > MOST_INSTRUMENT_BYTES or len(t) > MOST_PIECE_BYTES:
        raise TooLong()


def instrument_of(text):
    try:
        return read_instrument(text)
    except TextFault:
        raise NoInstrument() from None


def piece_of(text):
    try:
        return read_piece(text)
    except TextFault:
        raise NoPiece() from None


def check_ring(ring):
    if ring > MOST_RING:
        raise NoSuchChoice()


def note_of(notes, k):
    if k >= len(notes):
        raise NoSuchNote()
    return notes[k]
