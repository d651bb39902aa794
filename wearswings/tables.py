"""Tables: how much each range wears."""

from wearswings.errors import InvalidText
from wearswings.numerals import reading_of

# The greatest amount of an entry.
GREATEST = 1000000


class Table:
    """A list of entries (low, high, amount)."""

    def __init__(self, entries):
        self.entries = tuple([(low, high, amount) for low, high, amount in entries])

    @classmethod
    def parse(cls, text):
        """Returns the table of a text. Raises InvalidText(row) if a row is not that of an entry."""
        if text == "":
            return cls([])
        entries = [entry_of(row.split(" ")) for row in text.split("\n")]
        if None in entries:
            raise InvalidText(entries.index(None))
        return cls(entries)

    def amount(self, low, high):
        """Returns the amount of the range (low, high)."""
        amounts = [amount for start, end, amount in self.entries if low <= start and end <= high]
        return max(amounts, default=0)

    def wear(self, ranges):
        """Returns the sum of the amounts of a list of ranges."""
        return sum([self.amount(low, high) for low, high in ranges])

    def __eq__(self, other):
        return isinstance(other, Table) and self.entries == other.entries

    def __str__(self):
        return "\n".join([f"{low} {high} {amount}" for low, high, amount in self.entries])


def entry_of(words):
    """Returns the entry that a list of words writes, or None if it writes none."""
    numbers = [reading_of(word) for word in words]
    if len(numbers) != 3 or None in numbers:
        return None
    low, high, amount = numbers
    if low >= high or amount < 0 or amount > GREATEST:
        return None
    return (low, high, amount)
