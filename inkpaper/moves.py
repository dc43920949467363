"""Scans posed and turned."""

from inkpaper.scan import UNCLEAR

MOST_POSE = 31
MOST_QUARTERS = 3


def is_pose(s):
    return -MOST_POSE <= s <= MOST_POSE


def posed_rows(s, rows):
    """Give the rows in pose s."""
    height = len(rows)
    # The division rounds down below 0 too, as it is asked.
    return [moved_row(row, s * (2 * y - height) // (2 * height)) for y, row in enumerate(rows)]


def moved_row(row, steps):
    """Give the row moved so many columns to the right, to the left where steps is below 0."""
    return [point_at(row, x - steps) for x in range(len(row))]


def point_at(row, x):
    # A column below 0 would be counted from the row's end.
    if 0 <= x < len(row):
        return row[x]
    return UNCLEAR


def is_turn(quarters):
    return quarters <= MOST_QUARTERS


def turned_rows(quarters, rows):
    """Give the rows turned by so many quarters to the right."""
    turned = rows
    for step in range(quarters):
        turned = quarter_turned(turned)
    return turned


def quarter_turned(rows):
    return [column_upwards(rows, x) for x in range(len(rows[0]))]


def column_upwards(rows, x):
    """Give the points of a column from the lowest row to the top."""
    return [row[x] for row in reversed(rows)]
