"""What a kept cell may be, reckoned from the sums and the told cells.

A table is here its count of columns, its numbers row by row, and beside each number whether it is kept.
"""


def range_of_cell(columns, numbers, kept, place):
    """The least and the greatest number that the kept cell at this place has in a table that may be."""
    rows_left = left_in_rows(columns, numbers, kept)
    columns_left = left_in_columns(columns, numbers, kept)
    return range_by_left(rows_left, columns_left, kept, place)


def range_by_left(rows_left, columns_left, kept, place):
    """The same, of a table of which only is known what each row and column has left."""
    columns = len(columns_left)
    i = place // columns
    j = place % columns
    least = 0
    greatest = min(rows_left[i], columns_left[j])
    for rows in choices_of_rows(len(rows_left)):
        reached = columns_reached(columns, kept, rows, place)
        rows_have = sum([rows_left[row] for row in rows])
        columns_have = sum([columns_left[column] for column in reached])
        # Where the rows and their columns hold the cell both or neither, its number says nothing of them.
        if i in rows and j not in reached:
            least = max(least, rows_have - columns_have)
        if i not in rows and j in reached:
            greatest = min(greatest, columns_have - rows_have)
    return (least, greatest)


def left_in_rows(columns, numbers, kept):
    """What the kept cells of each row come to together."""
    left = [0] * (len(numbers) // columns)
    for place, number in enumerate(numbers):
        if kept[place]:
            left[place // columns] += number
    return left


def left_in_columns(columns, numbers, kept):
    """What the kept cells of each column come to together."""
    left = [0] * columns
    for place, number in enumerate(numbers):
        if kept[place]:
            left[place % columns] += number
    return left


def choices_of_rows(count):
    """All ways to take some of so many rows, none and all among them."""
    choices = [[]]
    for row in range(count):
        choices = choices + [rows + [row] for rows in choices]
    return choices


def columns_reached(columns, kept, rows, place):
    """The columns in which these rows have a kept cell, the one at this place not counted."""
    reached = []
    for column in range(columns):
        for row in rows:
            other = row * columns + column
            if kept[other] and other != place:
                reached.append(column)
                break
    return reached
