"""Rows of a size, and rows written as numbers."""

from turngroups.reader import Reader


def row_count(places, height):
    count = 1
    for place in range(places):
        count = count * (2 * height + 1)
    return count


# In the order of their numbers.
def rows_of_size(places, height):
    rows = [()]
    for place in range(places):
        longer = []
        for row in rows:
            longer.extend([row + (number,) for number in range(-height, height + 1)])
        rows = longer
    return rows


def whole_row(numbers, places):
    reader = Reader(numbers)
    # No size has more than 4 places, so a row's own bound of 8 numbers is kept by this, too.
    reader.taken_between(places, places)
    row = []
    for place in range(places):
        row.append(reader.taken_between(-99, 99))
    reader.must_end()
    return tuple(row)
