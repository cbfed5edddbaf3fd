"""The fewest more cells that must be kept, so that each cell that's kept for itself is left open far enough."""

from cellskept.ranges import left_in_columns, left_in_rows, range_by_left


def fewest_more(columns, numbers, own, w):
    """The places of the fewest more, row by row; None if not even all cells are enough.

    own says of each cell whether it is kept for itself.
    """
    free = [place for place, is_own in enumerate(own) if not is_own]
    # A cell more never makes a range narrower, so where all are too few, no choice need be tried.
    if not all_are_wide(columns, numbers, own, free, w):
        return None
    choices = [[]]
    while choices:
        for chosen in choices:
            if all_are_wide(columns, numbers, own, chosen, w):
                return chosen
        choices = with_one_more(choices, free)
    return None


def with_one_more(choices, places):
    """Each of these choices with one place more, behind its last; the first choice stays ahead."""
    longer = []
    for chosen in choices:
        for place in places:
            if not chosen or place > chosen[-1]:
                longer.append(chosen + [place])
    return longer


def all_are_wide(columns, numbers, own, chosen, w):
    """Whether each cell kept for itself has a width of w at least, with the chosen ones kept too and no others."""
    kept = list(own)
    for place in chosen:
        kept[place] = True
    rows_left = left_in_rows(columns, numbers, kept)
    columns_left = left_in_columns(columns, numbers, kept)
    for place, is_own in enumerate(own):
        if is_own:
            ends = range_by_left(rows_left, columns_left, kept, place)
            if ends[1] - ends[0] < w:
                return False
    return True
