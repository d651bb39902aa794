"""What the tests of lists of ranges use: lists to try, and points 7 and 11 to 14 word by word, slowly."""

from itertools import combinations, combinations_with_replacement, permutations

from tests.helpers import LIMIT, holds, slow_count, slow_turning_points, span

# All ranges of the readings from 0 to 3.
SMALL_RANGES = list(combinations(range(4), 2))


def small_lists(longest):
    """Returns all lists of at most so many of the small ranges, in ascending order."""
    return [
        list(chosen)
        for number in range(longest + 1)
        for chosen in combinations_with_replacement(SMALL_RANGES, number)
    ]


def small_tables():
    """Returns all tables, as tuples of entries, that give the amount 1 to some of the small ranges."""
    return [
        tuple((low, high, 1) for low, high in chosen)
        for number in range(len(SMALL_RANGES) + 1)
        for chosen in combinations(SMALL_RANGES, number)
    ]


def drawn_ranges(random, number, greatest):
    """Returns so many ranges of the readings from 0 to the greatest one."""
    return [tuple(sorted(random.sample(range(greatest + 1), 2))) for _ in range(number)]


def wider_ranges(random, ranges, most):
    """Returns the ranges, each wider by at most so much at each end, in another order."""
    wider = [(low - random.randrange(most + 1), high + random.randrange(most + 1)) for low, high in ranges]
    random.shuffle(wider)
    return wider


def drawn_entries(random, number, greatest):
    """Returns the entries of a table."""
    return [(*drawn, random.choice([0, 1, 2, 7, random.randrange(10 ** 6 + 1), 10 ** 6]))
            for drawn in drawn_ranges(random, number, greatest)]


def slow_amount(entries, outer):
    """Point 11: the greatest amount of the entries in a range."""
    return max([0, *(amount for low, high, amount in entries if holds(outer, (low, high)))])


def slow_wear(entries, ranges):
    return sum(slow_amount(entries, outer) for outer in ranges)


def slow_matchings(first, second):
    """Point 12: all matchings."""
    return [
        list(places)
        for places in permutations(range(len(second)), len(first))
        if all(holds(second[place], inner) for place, inner in zip(places, first))
    ]


def is_list_of_places(first, second, places):
    """Point 12 for a list that was returned."""
    return (
        isinstance(places, list)
        and len(places) == len(first)
        and all(type(place) is int and 0 <= place < len(second) for place in places)
        and len(set(places)) == len(places)
        and all(holds(second[place], inner) for place, inner in zip(places, first))
    )


def is_table_of_readings(table):
    """Point 11 for the entries of a table that was returned."""
    return isinstance(table.entries, tuple) and all(
        isinstance(entry, tuple)
        and len(entry) == 3
        and all(type(number) is int for number in entry)
        and -LIMIT <= entry[0] < entry[1] <= LIMIT
        and 0 <= entry[2] <= 10 ** 6
        for entry in table.entries
    )


def slow_halves(load):
    """Points 6 and 7: the half-cycles of a load."""
    cycles, rest = slow_count(slow_turning_points(load))
    return sorted([*cycles, *cycles, *map(span, rest, rest[1:])])
