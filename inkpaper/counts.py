"""Points of scans counted."""

from inkpaper.scan import INK, PAPER, UNCLEAR


def kind_counts(rows):
    """Give how many points of the rows are paper, ink, unclear."""
    return [count_kind(kind, rows) for kind in (PAPER, INK, UNCLEAR)]


def count_kind(kind, rows):
    return sum([row.count(kind) for row in rows])


def are_same_size(first, second):
    return len(first) == len(second) and len(first[0]) == len(second[0])


def count_apart(first, second):
    """Give how many points are ink in one of the two and paper in the other."""
    return sum([count_apart_in_row(left, right) for left, right in zip(first, second)])


def count_apart_in_row(left, right):
    return len([kind for kind, other in zip(left, right) if are_apart(kind, other)])


def are_apart(kind, other):
    return (kind, other) in ((INK, PAPER), (PAPER, INK))
