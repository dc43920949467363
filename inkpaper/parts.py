"""Scans cut to boxes and put together."""

from inkpaper.form import is_size
from inkpaper.scan import UNCLEAR

BESIDE = 0
BELOW = 1


class Box:
    """The columns from x0 on and before x1 of the rows from y0 on and before y1."""

    def __init__(self, x0, y0, x1, y1):
        self.x0 = x0
        self.y0 = y0
        self.x1 = x1
        self.y1 = y1

    def lies_in(self, rows):
        """Whether the box has a point, and the rows have all of its points."""
        return self.x0 < self.x1 <= len(rows[0]) and self.y0 < self.y1 <= len(rows)

    def rows_within(self, rows):
        return [row[self.x0:self.x1] for row in rows[self.y0:self.y1]]


def is_join(side):
    return side in (BESIDE, BELOW)


def fit_together(side, first, second):
    """Whether a scan may be as large as the two put together."""
    if side == BESIDE:
        return is_size(len(first[0]) + len(second[0]), max(len(first), len(second)))
    return is_size(max(len(first[0]), len(second[0])), len(first) + len(second))


def put_together(side, first, second):
    """Give the rows of the two with the second on that side of the first."""
    if side == BESIDE:
        height = max(len(first), len(second))
        return [left + right for left, right in zip(made_higher(first, height), made_higher(second, height))]
    width = max(len(first[0]), len(second[0]))
    return made_wider(first, width) + made_wider(second, width)


def made_higher(rows, height):
    """Give the rows with unclear ones below them, up to that height."""
    return rows + [[UNCLEAR] * len(rows[0])] * (height - len(rows))


def made_wider(rows, width):
    """Give the rows with unclear points to the right of them, up to that width."""
    return [row + [UNCLEAR] * (width - len(row)) for row in rows]
