"""The stops of a moment, a list of courses and frets by courses, in each of the three kinds."""

from lutesounds.refusals import TextFault

NECK_COURSES = 6
FIRST_BASS = 7
FRENCH_FRETS = "abcdefghiklmnopq"
FRENCH_LOWEST = "4567"
ITALIAN_FRETS = "0123456789xyzvuw"
GERMAN_UNSTOPPED = "54321"
GERMAN_SIXTH = "+ABCDEFGHIKLMNOP"
GERMAN_CROSSINGS = "abcdefghiklmnopqrstvxyz&9"
MOST_CROSSING_BYTES = 3


def read_french_stops(reader):
    stops = read_neck(reader, FRENCH_FRETS, list(range(1, NECK_COURSES + 1)))
    while reader.sees(" "):
        reader.skip(" ")
        start = reader.place
        add_stop(stops, (read_french_bass(reader), 0), start)
    return stops


def read_italian_stops(reader):
    stops = list(reversed(read_neck(reader, ITALIAN_FRETS, list(range(NECK_COURSES, 0, -1)))))
    while reader.sees(" "):
        reader.skip(" ")
        start = reader.place
        add_stop(stops, (read_bass_number(reader), 0), start)
    return stops


def read_german_stops(reader):
    if reader.sees("."):
        reader.skip(".")
        return []
    stops = []
    while True:
        start = reader.place
        add_stop(stops, read_german_stop(reader), start)
        if not reader.sees(" "):
            return stops
        reader.skip(" ")


def read_neck(reader, frets, courses):
    """The stops of six signs, one for each course, in the order in which they stand."""
    stops = []
    for course in courses:
        fret = reader.pick(frets + ".")
        if fret < len(frets):
            stops.append((course, fret))
    return stops


def add_stop(stops, stop, start):
    """Add a stop whose sign stands at start behind those before it."""
    if len(stops) > 0 and stop[0] <= stops[-1][0]:
        raise TextFault(start)
    stops.append(stop)


def read_french_bass(reader):
    if reader.sees(FRENCH_LOWEST):
        return FIRST_BASS + 4 + reader.pick(FRENCH_LOWEST)
    course = FIRST_BASS
    while reader.sees("/") and course < FIRST_BASS + 3:
        reader.skip("/")
        course += 1
    reader.skip("a")
    return course


def read_bass_number(reader):
    if reader.sees("1"):
        reader.skip("1")
        return 10 + reader.pick("01234")
    return FIRST_BASS + reader.pick("789")


def read_german_stop(reader):
    if reader.sees("-"):
        reader.skip("-")
        return (read_bass_number(reader), 0)
    if reader.sees(GERMAN_UNSTOPPED):
        return (1 + reader.pick(GERMAN_UNSTOPPED), 0)
    if reader.sees(GERMAN_SIXTH):
        return (NECK_COURSES, reader.pick(GERMAN_SIXTH))
    return read_crossing(reader)


def read_crossing(reader):
    """A course of 1 to 5 at a fret from 1 on: the same byte once more for each five frets further up."""
    byte = reader.byte()
    number = reader.pick(GERMAN_CROSSINGS)
    times = 1
    while reader.byte() == byte and times < MOST_CROSSING_BYTES:
        reader.pick(GERMAN_CROSSINGS)
        times += 1
    return (5 - number % 5, 1 + number // 5 + 5 * (times - 1))
