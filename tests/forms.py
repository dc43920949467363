"""Forms for the tests, told without the package's own code."""

import re

PICTURE_MARK = [83, 72, 71, 49]
SCAN_MARK = [83, 72, 84, 49]


def number(value):
    return list(value.to_bytes(4, "little"))


def raw_picture(width, height, *parts):
    """A picture's mark and size, then the parts as they stand."""
    return PICTURE_MARK + number(width) + number(height) + [byte for part in parts for byte in part]


def raw_scan(width, height, *parts):
    return SCAN_MARK + number(width) + number(height) + [byte for part in parts for byte in part]


def picture_items(row):
    items = []

    def tell_plain(greys):
        for start in range(0, len(greys), 128):
            piece = greys[start:start + 128]
            items.extend([len(piece) - 1, *piece])

    behind = 0
    text = bytes(row)
    for same in re.finditer(rb"(.)\1{2,129}", text, re.DOTALL):
        tell_plain(text[behind:same.start()])
        items.extend([len(same.group()) + 125, same.group()[0]])
        behind = same.end()
    tell_plain(text[behind:])
    return items


def scan_runs(row):
    found = re.finditer(rb"(.)\1{0,63}", bytes(row), re.DOTALL)
    return [64 * run.group()[0] + len(run.group()) - 1 for run in found]


def picture_of(rows):
    """The form of a picture with these rows of greys."""
    told = [[1] if y > 0 and row == rows[y - 1] else [0] + picture_items(row) for y, row in enumerate(rows)]
    return raw_picture(len(rows[0]), len(rows), *told)


def scan_of(rows):
    """The form of a scan with these rows of points."""
    told = [[255] if y > 0 and row == rows[y - 1] else scan_runs(row) for y, row in enumerate(rows)]
    return raw_scan(len(rows[0]), len(rows), *told)


def parted(numbers, width):
    """The rows of that width that the numbers tell."""
    return [numbers[start:start + width] for start in range(0, len(numbers), width)]


def streaky_rows(random, width, height, values):
    """Rows with streaks of one value, some of them the same as the one above."""
    rows = []
    while len(rows) < height:
        if rows and random.randrange(3) == 0:
            rows.append(list(rows[-1]))
            continue
        row = []
        while len(row) < width:
            row.extend([random.choice(values)] * random.choice([1, 1, 1, 2, 2, 3, 4, 7, 65, 131]))
        rows.append(row[:width])
    return rows


# One of each fault: rule, place, bytes.
PICTURE_FAULTS = [
    (1, 2, SCAN_MARK + number(1) + number(1) + [0, 0, 7]),
    (2, 4, raw_picture(0, 1, [0, 0, 7])),
    (2, 4, raw_picture(8193, 0, [0, 0, 7])),
    (2, 8, raw_picture(1, 0, [0, 0, 7])),
    (2, 8, raw_picture(8192, 2049)),
    (3, 12, raw_picture(1, 1, [1])),
    (3, 15, raw_picture(1, 2, [0, 0, 7], [2])),
    (4, 13, raw_picture(2, 1, [0, 2, 7, 8, 9])),
    (4, 13, raw_picture(2, 1, [0, 128, 7])),
    (5, 0, []),
    (5, 9, raw_picture(1, 1)[:9]),
    (5, 14, raw_picture(1, 1, [0, 0])),
    (6, 12, raw_picture(3, 1, [0, 2, 7, 7, 7])),
    (6, 15, raw_picture(1, 2, [0, 0, 7], [0, 0, 7])),
    (7, 15, raw_picture(1, 1, [0, 0, 7], [1])),
]
SCAN_FAULTS = [
    (1, 2, PICTURE_MARK + number(1) + number(1) + [0]),
    (2, 4, raw_scan(0, 1, [0])),
    (2, 4, raw_scan(8193, 0, [0])),
    (2, 8, raw_scan(1, 0, [0])),
    (2, 8, raw_scan(8192, 2049)),
    (3, 12, raw_scan(1, 1, [255])),
    (3, 12, raw_scan(1, 1, [192])),
    (3, 13, raw_scan(1, 2, [64], [254])),
    (4, 12, raw_scan(2, 1, [66])),
    (5, 0, []),
    (5, 9, raw_scan(1, 1)[:9]),
    (5, 13, raw_scan(2, 1, [64])),
    (6, 12, raw_scan(2, 1, [64, 64])),
    (6, 13, raw_scan(1, 2, [64], [64])),
    (7, 13, raw_scan(1, 1, [64], [255])),
]
