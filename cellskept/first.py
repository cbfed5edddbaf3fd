"""The first of the tables that may be."""

from cellskept.ranges import left_in_columns, left_in_rows, range_by_left


def first_table(columns, numbers, kept, place, v):
    """The first table that may be in which the kept cell at this place is v; v lies in the cell's range."""
    rows_left = left_in_rows(columns, numbers, kept)
    columns_left = left_in_columns(columns, numbers, kept)
    unsettled = list(kept)
    found = list(numbers)
    for other in [place] + [each for each in range(len(numbers)) if kept[each] and each != place]:
        number = v
        if other != place:
            # The least number that still goes with those settled so far: so none of the tables comes earlier.
            number = range_by_left(rows_left, columns_left, unsettled, other)[0]
        found[other] = number
        unsettled[other] = False
        rows_left[other // columns] -= number
        columns_left[other % columns] -= number
    return found
