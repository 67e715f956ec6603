"""What is asked of stands: which is no less, who knows a thing, and which stands a hall has."""

from lorehall.errors import TooMany
from lorehall.halls import caps_of, full

# A hall with more stands than these is not looked through stand by stand.
MOST_STANDS = 2000


def no_less(stand, other):
    """Tell whether each level of the stand is no less than that of the other one."""
    return all([
        level >= low
        for levels, lows in zip(stand, other)
        for level, low in zip(levels, lows)
    ])


def is_known(stand, thing):
    """Tell whether somebody knows the thing."""
    return any([levels[thing] >= 1 for levels in stand])


def known_throughout(stands, thing):
    """Tell whether at each of the stands somebody knows the thing."""
    return all([is_known(stand, thing) for stand in stands])


def one_of_each(choices):
    """Tell all tuples that have one of each of the choices, the first choice varying last."""
    found = [()]
    for choice in choices:
        found = [row + (part,) for row in found for part in choice]
    return found


def all_stands(hall):
    """Tell all stands of a hall, rising."""
    folk, things = hall
    rows = one_of_each([list(range(cap + 1)) for cap in caps_of(hall)])
    return one_of_each([rows] * folk)


def count_stands(hall):
    """Tell how many stands a hall has, without making them."""
    many = 1
    for caps in full(hall):
        for cap in caps:
            many *= cap + 1
    return many


def check_few(hall):
    """Refuse a hall with more stands than can be looked through."""
    if count_stands(hall) > MOST_STANDS:
        raise TooMany(MOST_STANDS)
