"""The errors: a text at fault, and each refusal with the number that answers it."""


class TextFault(ValueError):
    """A text is not of its form: the place where it is at fault."""

    def __init__(self, place):
        self.place = place


class Refusal(ValueError):
    """A call is refused: the number that answers it."""

    def __init__(self, answer):
        self.answer = answer


class NoSuchChoice(Refusal):
    """An argument that is a number, or an interval, is none of those that there are."""

    def __init__(self):
        Refusal.__init__(self, -1)


class TooLong(Refusal):
    """A text has more bytes than are taken."""

    def __init__(self):
        Refusal.__init__(self, -2)


class Misfit(Refusal):
    """The piece has a stop that is none of the instrument's places: the first one's line and course."""

    def __init__(self, line, course):
        Refusal.__init__(self, -3)
        self.line = line
        self.course = course


class NoSuchNote(Refusal):
    """There is no note of this number."""

    def __init__(self):
        Refusal.__init__(self, -4)


class NoNote(Refusal):
    """There is no note at all."""

    def __init__(self):
        Refusal.__init__(self, -5)


class NoInstrument(Refusal):
    """A text is no instrument's: the only one, or the first of two."""

    def __init__(self):
        Refusal.__init__(self, -6)


class NoPiece(Refusal):
    """A text is no piece's: the only one, or the first of two."""

    def __init__(self):
        Refusal.__init__(self, -8)


class NoOtherInstrument(Refusal):
    """Of two instruments' texts the second one is none."""

    def __init__(self):
        Refusal.__init__(self, -9)


class NoOtherPiece(Refusal):
    """Of two pieces' texts the second one is none."""

    def __init__(self):
        Refusal.__init__(self, -10)
