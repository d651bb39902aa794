"""A console that keeps loads by names and answers rows."""

from wearswings.calm import calm
from wearswings.closed import closed_cycles
from wearswings.compare import compared
from wearswings.counts import NOTHING, Count, cycles_row, points_row
from wearswings.errors import InvalidRow, NoFactor, UnknownName
from wearswings.factors import factor
from wearswings.numerals import reading_of
from wearswings.tables import Table, entry_of

# The number of names in a row, by its first word.
NAMES = {"load": 1, "names": 0, "count": 1, "closed": 1, "compare": 2, "factor": 2, "calm": 1, "wear": 1}

# The greatest number of letters in a name.
LONGEST_NAME = 8

# The greatest number of readings in a load.
MOST_READINGS = 2000


class Console:
    """Keeps loads by names and executes rows."""

    def __init__(self):
        self._loads = {}

    def answer(self, row):
        """Executes a row and returns its answer.

        Raises InvalidRow(row) if the row has none of the forms, then UnknownName(name) with the first name
        that no load has, and then as the functions do that work the answer out.
        """
        command, names, values = _parts(row)
        if command == "load":
            self._loads[names[0]] = values
            return "ok"
        if command == "names":
            return " ".join(sorted(self._loads)) if self._loads else NOTHING
        return _told(command, [self._load(name) for name in names], values)

    def _load(self, name):
        if name not in self._loads:
            raise UnknownName(name)
        return self._loads[name]


def _parts(row):
    """Returns the first word of a row, the list of its names and the list of the values behind them.

    Raises InvalidRow(row) if the row has none of the forms.
    """
    command, *words = row.split(" ")
    if command not in NAMES:
        raise InvalidRow(row)
    number = NAMES[command]
    names = words[:number]
    values = _values(command, words[number:])
    if len(names) < number or not all([_is_name(name) for name in names]) or values is None:
        raise InvalidRow(row)
    return command, names, values


def _is_name(word):
    # isalpha and islower alone would also take the letters of other scripts.
    return len(word) <= LONGEST_NAME and word.isascii() and word.isalpha() and word.islower()


def _values(command, words):
    """Returns the list of the values that the words behind the names write, or None if these words are wrong."""
    if command == "load":
        values = [reading_of(word) for word in words]
        fits = 1 <= len(words) <= MOST_READINGS
    elif command == "calm":
        values = [_error_of(word) for word in words]
        fits = len(words) == 1
    elif command == "wear":
        values = [entry_of(word.split(":")) for word in words]
        fits = len(words) >= 1
    else:
        values = []
        fits = len(words) == 0
    return values if fits and None not in values else None


def _error_of(word):
    """Returns the tolerance that a word writes, or None if it writes none."""
    error = reading_of(word)
    return None if error is None or error < 0 else error


def _told(command, loads, values):
    """Returns the answer to a row that asks for something of loads."""
    first, last = loads[0], loads[-1]
    if command == "count":
        return str(Count.of(first)).replace("\n", " / ")
    if command == "closed":
        return cycles_row(closed_cycles(first))
    if command == "compare":
        return compared(first, last)
    if command == "factor":
        return _factor_row(Count.of(first).half_cycles, Count.of(last).half_cycles)
    if command == "calm":
        return points_row(calm(first, values[0]))
    return str(Table(values).wear(Count.of(first).half_cycles))


def _factor_row(first, second):
    try:
        p, q = factor(first, second)
    except NoFactor:
        return NOTHING
    return f"{p}/{q}"
