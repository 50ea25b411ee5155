"""Intervals: five whole numbers a, b, c, e, d, for 2^(a/d) 3^(b/d) 5^(c/d) 7^(e/d)."""

PRIMES = (2, 3, 5, 7)
UNISON = (0, 0, 0, 0, 1)
WIDEST_POWER = 99
FINEST_PART = 24


def common_factor(x, y):
    """The greatest common factor, not below 0; of 0 and another number that number's own size."""
    x = abs(x)
    y = abs(y)
    while y > 0:
        rest = x % y
        x = y
        y = rest
    return x


def common_factor_of_all(numbers):
    common = 0
    for number in numbers:
        common = common_factor(common, number)
    return common


def is_interval(numbers):
    if len(numbers) != 5:
        return False
    for power in numbers[:4]:
        if abs(power) > WIDEST_POWER:
            return False
    return 1 <= numbers[4] <= FINEST_PART and common_factor_of_all(numbers) == 1


def upon(x, y):
    """The five numbers of x upon y in lowest terms: an interval, unless they are out of its bounds."""
    numbers = [x[k] * y[4] + y[k] * x[4] for k in range(4)]
    numbers.append(x[4] * y[4])
    common = common_factor_of_all(numbers)
    return tuple([number // common for number in numbers])


def raised(base, power):
    """base to a power from 0 on, by squaring: powers here go into the thousands."""
    result = 1
    while power > 0:
        if power % 2 == 1:
            result = result * base
        base = base * base
        power = power // 2
    return result


def narrower(x, y):
    """Whether x is narrower than y.

    Both ratios are raised by the product of the two d, which keeps their order and leaves whole numbers to
    compare, so that this is exact however close they are.
    """
    above = 1
    below = 1
    for k, prime in enumerate(PRIMES):
        power = y[k] * x[4] - x[k] * y[4]
        if power > 0:
            above = above * raised(prime, power)
        else:
            below = below * raised(prime, -power)
    return above > below


def place_among(rising, interval):
    """How many of the intervals, which rise, are narrower than this one."""
    low = 0
    high = len(rising)
    while low < high:
        middle = (low + high) // 2
        if narrower(rising[middle], interval):
            low = middle + 1
        else:
            high = middle
    return low


def ranks(intervals):
    """A dict of each interval's rank: the narrower one's is less, so ranks compare in the intervals' place."""
    rising = []
    known = {}
    for interval in intervals:
        if interval not in known:
            known[interval] = True
            rising.insert(place_among(rising, interval), interval)
    ranked = {}
    for rank, interval in enumerate(rising):
        ranked[interval] = rank
    return ranked
