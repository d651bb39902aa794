"""How many times as much as a second list of ranges a first one wears at most."""

from math import gcd

from wearswings.compare import matching
from wearswings.errors import More, NoFactor, TooLarge

# The greatest number of ranges in a list.
MOST_RANGES = 12


def factor(first, second):
    """Returns the least factor as a tuple (p, q) in lowest terms.

    Raises TooLarge(count) for a list of more than 12 ranges, and NoFactor(table) if there is no factor.
    """
    return _least(first, second)[0]


def factor_matching(first, second):
    """Returns a matching of the first list, repeated q times, into the second one, repeated p times.

    p / q is the least factor. Raises TooLarge and NoFactor as factor does.
    """
    return _least(first, second)[1]


def factor_table(first, second):
    """Returns a table under which no fraction below the least factor is one, or None if it is 0.

    Raises TooLarge and NoFactor as factor does.
    """
    return _least(first, second)[2]


def _least(first, second):
    """Returns the least factor, its matching and its table."""
    _refuse_large(first)
    _refuse_large(second)
    p, q, table = 0, 1, None
    # Under the table of a fraction that is too small the ratio of the wears is greater than it, and no
    # factor is below this ratio. There are few such ratios, for no more than 12 ranges have an amount of 1.
    while True:
        try:
            return (p, q), matching(list(first) * q, list(second) * p), table
        except More as more:
            table = more.table
        worn, allowed = table.wear(first), table.wear(second)
        if allowed == 0:
            raise NoFactor(table)
        p, q = worn // gcd(worn, allowed), allowed // gcd(worn, allowed)


def _refuse_large(ranges):
    if len(ranges) > MOST_RANGES:
        raise TooLarge(len(ranges))
