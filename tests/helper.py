"""Shared by the tests: writing instruments' and pieces' texts from what they tell, and finding faults."""

from lutesounds.refusals import TextFault

LENGTH_SIGNS = {1: "x", 2: "t", 4: "s", 8: "e", 16: "q", 32: "h", 64: "w",
                3: "t.", 6: "s.", 12: "e.", 24: "q.", 48: "h.", 96: "w."}
FRENCH_BASSES = {7: "a", 8: "/a", 9: "//a", 10: "///a", 11: "4", 12: "5", 13: "6", 14: "7"}
KINDS = ("french", "italian", "german")
BAR = None


def as_bytes(text):
    return list(text.encode("latin-1"))


def fault(read, text):
    """Where read finds the text at fault, or None."""
    try:
        read(as_bytes(text))
    except TextFault as error:
        return error.place
    return None


def instrument(frets=(), courses=("1",), basses=(), length="60000"):
    lines = [f"length {length}"]
    lines += [f"fret {x}" for x in frets]
    lines += [f"course {x}" for x in courses]
    lines += [f"bass {x}" for x in basses]
    return "".join(line + "\n" for line in lines)


def equal_frets(count):
    """The texts of so many frets, each a twelfth of the octave further up."""
    texts = []
    for fret in range(1, count + 1):
        if fret == 12:
            texts.append("2")
        else:
            low = next(k for k in (12, 6, 4, 3, 2, 1) if fret % k == 0 and 12 % k == 0)
            texts.append(f"2^{fret // low}/{12 // low}")
    return texts


FULL_LUTE = instrument(equal_frets(15), ["2^2", "3", "5", "7", "2", "1"], ["2^-1"] * 8)

# Intervals that take the longest to compare.
GREAT_POWERS = instrument(
    [f"2^{k}/23" for k in range(1, 16)],
    ["2^-83/23 3^97/23 5^-89/23 7^79/23", "2^84/23 3^-97/23 5^89/23 7^-79/23", "3^95/23 5^-94/23 7^91/23",
     "3^-95/23 5^94/23 7^-91/23", "2^-82/23 3^96/23 5^88/23 7^-78/23", "2^82/23 3^96/23 5^-88/23 7^-78/23"],
    ["2^97/24", "3^-95/22", "5^89/21", "7^-83/20", "2^79/19", "3^61/17", "5^-97/13", "7^97/11"])


def french_stops(stops):
    neck = "".join("abcdefghiklmnopq"[stops[c]] if c in stops else "." for c in range(1, 7))
    return " ".join([neck] + [FRENCH_BASSES[c] for c in sorted(stops) if c > 6])


def italian_stops(stops):
    neck = "".join("0123456789xyzvuw"[stops[c]] if c in stops else "." for c in range(6, 0, -1))
    return " ".join([neck] + [str(c) for c in sorted(stops) if c > 6])


def german_sign(course, fret):
    if course > 6:
        return f"-{course}"
    if course == 6:
        return "+ABCDEFGHIKLMNOP"[fret]
    if fret == 0:
        return str(6 - course)
    row, column = divmod(fret - 1, 5)
    return "abcdefghiklmnopqrstvxyz&9"[5 * column + 5 - course] * (row + 1)


def german_stops(stops):
    return " ".join(german_sign(c, stops[c]) for c in sorted(stops)) or "."


def piece(kind, lines):
    """A piece's text: each line is BAR, or a length and a dict of courses and their frets."""
    write = {"french": french_stops, "italian": italian_stops, "german": german_stops}[kind]
    text = kind + "\n"
    before = None
    for line in lines:
        if line is BAR:
            text += "|\n"
            continue
        length, stops = line
        text += ("" if length == before else LENGTH_SIGNS[length]) + " " + write(stops) + "\n"
        before = length
    return text
