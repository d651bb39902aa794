"""Readings as they are written in texts."""

from wearswings.kinds import is_reading

# No reading is written with more characters than the least one.
LONGEST = 11


def is_numeral(word):
    """Returns True if a word is an integer as texts write it, otherwise False."""
    digits = word.removeprefix("-")
    # isdigit alone would also take the digits of other scripts.
    if not digits.isascii() or not digits.isdigit():
        return False
    return word == "0" or not digits.startswith("0")


def reading_of(word):
    """Returns the reading that a word writes, or None if it writes none."""
    # The length comes first because int refuses numbers of thousands of digits.
    if len(word) > LONGEST or not is_numeral(word):
        return None
    reading = int(word)
    return reading if is_reading(reading) else None
