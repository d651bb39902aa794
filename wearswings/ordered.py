"""Lists in ascending order."""


def place_in(row, value):
    """Returns the place of the first item of an ascending list that is not less than a value, or its length."""
    start, end = 0, len(row)
    while start < end:
        middle = (start + end) // 2
        if row[middle] < value:
            start = middle + 1
        else:
            end = middle
    return start


def put_in(row, value):
    """Puts a value into an ascending list, which stays in order."""
    row.insert(place_in(row, value), value)
