"""Intervals' texts."""

from lutesounds.intervals import UNISON, common_factor, is_interval, upon
from lutesounds.reader import Reader
from lutesounds.refusals import TextFault

FACTORS = "2357"
MOST_DIGITS = 4


def write_interval(interval):
    """An interval's text."""
    factors = [write_factor(sign, interval[k], interval[4]) for k, sign in enumerate(FACTORS) if interval[k] != 0]
    return " ".join(factors) if len(factors) > 0 else "1"


def write_factor(sign, top, below):
    """A factor whose power is top by below: these may have a common factor that not all of an interval's five have."""
    common = common_factor(top, below)
    top = top // common
    below = below // common
    if below > 1:
        return f"{sign}^{top}/{below}"
    if top == 1:
        return sign
    return f"{sign}^{top}"


def read_interval(text, place, end):
    """The interval that the text tells from a place up to an end; TextFault where it is at fault."""
    reader = Reader(text, place, end)
    if reader.sees("1"):
        return read_unison(reader)
    interval = read_factors(reader)
    if not is_interval(interval):
        raise TextFault(end)
    return interval


def read_unison(reader):
    reader.skip("1")
    if not reader.ended():
        raise TextFault(reader.place)
    return UNISON


def read_factors(reader):
    """The five numbers of all factors together; whether they are an interval is not looked at."""
    before = -1
    product = UNISON
    while True:
        start = reader.place
        factor = reader.pick(FACTORS)
        power = read_power(reader, start)
        if factor <= before:
            raise TextFault(start)
        before = factor
        product = upon(power_of_factor(factor, power), product)
        if reader.ended():
            return product
        reader.skip(" ")


def power_of_factor(factor, power):
    numbers = [0, 0, 0, 0, power[1]]
    numbers[factor] = power[0]
    return tuple(numbers)


def read_power(reader, start):
    """The power, n and d, of the factor whose digit stands at start."""
    if not reader.sees("^"):
        return (1, 1)
    reader.skip("^")
    top = read_signed(reader)
    if not reader.sees("/"):
        if top == 0 or top == 1:
            raise TextFault(start)
        return (top, 1)
    reader.skip("/")
    below = reader.whole_number(MOST_DIGITS)
    if below < 2 or common_factor(top, below) > 1:
        raise TextFault(start)
    return (top, below)


def read_signed(reader):
    if not reader.sees("-"):
        return reader.whole_number(MOST_DIGITS)
    reader.skip("-")
    if reader.sees("0"):
        raise TextFault(reader.place)
    return -reader.whole_number(MOST_DIGITS)
