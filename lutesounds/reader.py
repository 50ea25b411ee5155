"""Going through a text of bytes, place by place."""

from lutesounds.refusals import TextFault

DIGITS = "0123456789"

# One above the greatest byte: no sign is that, so at the end of a text none is seen.
NO_BYTE = 256


def sign_number(signs, byte):
    """Which of the signs (from 0) the byte is; None if it is none of them."""
    for number, sign in enumerate(signs):
        if ord(sign) == byte:
            return number
    return None


class Reader:
    """A text up to an end, and the place up to which it has been gone through.

    A sign that is missing at the end is at fault at the end's own place: that is what the document asks for
    where more must come, so no method needs to tell the end from a wrong byte.
    """

    def __init__(self, text, place, end):
        self.text = text
        self.place = place
        self.end = end

    def ended(self):
        return self.place >= self.end

    def byte(self):
        return NO_BYTE if self.ended() else self.text[self.place]

    def sees(self, signs):
        """Whether one of the signs stands here."""
        return sign_number(signs, self.byte()) is not None

    def pick(self, signs):
        """Go over one of the signs; which of them it is."""
        number = sign_number(signs, self.byte())
        if number is None:
            raise TextFault(self.place)
        self.place += 1
        return number

    def skip(self, word):
        """Go over these signs, one behind the other."""
        for sign in word:
            self.pick(sign)

    def whole_number(self, most):
        """Go over a number of at most so many digits without needless zeros."""
        value = self.pick(DIGITS)
        count = 1
        while self.sees(DIGITS):
            if count == most or value == 0:
                raise TextFault(self.place)
            value = 10 * value + self.pick(DIGITS)
            count += 1
        return value
