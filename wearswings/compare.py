"""Which of two lists of ranges wears more, under all tables at once."""

from wearswings.counts import Count
from wearswings.errors import More
from wearswings.kinds import is_number
from wearswings.loads import contains
from wearswings.ordered import place_in, put_in
from wearswings.tables import Table


def never_more(first, second):
    """Returns True if the first list of ranges never wears more than the second one, otherwise False."""
    return None not in _best_places(first, second)


def matching(first, second):
    """Returns a matching of the first list of ranges into the second one.

    Raises More(table) with a table under which the first list wears more, if there is no matching.
    """
    places = _best_places(first, second)
    if None in places:
        crowd = _crowd(first, second, places)
        raise More(Table([(low, high, 1) for low, high in crowd]))
    return places


def is_matching(first, second, value):
    """Returns True if a value of any kind is a matching of the first list into the second one."""
    if not isinstance(value, list) or len(value) != len(first):
        return False
    if not all([is_number(place) and 0 <= place < len(second) for place in value]):
        return False
    if len(set(value)) != len(value):
        return False
    return all([contains(second[place], inner) for place, inner in zip(value, first)])


def size_with_more(first, second):
    """Returns the greatest size of which, or of more, the first list has more ranges, or None if there is none."""
    others = _sizes(second)
    for at, size in enumerate(_sizes(first)):
        # The first list has more than `at` ranges of this size or more.
        if at >= len(others) or others[at] < size:
            return size
    return None


def compared(first, second):
    """Returns "alike", "less", "more" or "neither", as the first load wears compared with the second one."""
    one, other = Count.of(first).half_cycles, Count.of(second).half_cycles
    if one == other:
        return "alike"
    if never_more(one, other):
        return "less"
    if never_more(other, one):
        return "more"
    return "neither"


def _sizes(ranges):
    return sorted([high - low for low, high in ranges], reverse=True)


def _best_places(first, second):
    """Returns the list of the places in the second list that the ranges of the first one have.

    No place occurs twice, as many ranges as possible have one, and the others have None.
    """
    places = [None] * len(first)
    inner = sorted([(low, high, at) for at, (low, high) in enumerate(first)])
    outer = sorted([(low, high, place) for place, (low, high) in enumerate(second)], reverse=True)
    free = []
    # A range that is low enough for one of these is so for all that follow. So of those that contain
    # it the one with the lowest high is missed least, and no place has to be changed later.
    for low, high, at in inner:
        while outer and outer[-1][0] <= low:
            _, end, place = outer.pop()
            put_in(free, (end, place))
        found = place_in(free, (high, 0))
        if found < len(free):
            _, places[at] = free.pop(found)
    return places


def _crowd(first, second, places):
    """Returns ranges of the first list, each once, that together fit into fewer places than they take.

    The places are the best ones, and one of them is None.
    """
    owners = {place: at for at, place in enumerate(places) if place is not None}
    waiting = [places.index(None)]
    crowd = []
    # Each place that a range of the crowd fits into is taken, by one that comes to the crowd too. Else the
    # places could be changed along the way there, and one more range had one.
    while waiting:
        inner = first[waiting.pop()]
        crowd.append(inner)
        for place, outer in enumerate(second):
            if place in owners and contains(outer, inner):
                waiting.append(owners.pop(place))
    return sorted(set(crowd))
