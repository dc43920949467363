"""What the forms of pictures and of scans have in common."""

WRONG_MARK = 1
WRONG_SIZE = 2
WRONG_START = 3
TOO_MANY = 4
ENDS_EARLY = 5
NOT_THE_ONE_FORM = 6
BYTES_BEHIND = 7

LONGEST_SIDE = 8192
# 2 to the power of 24
MOST_POINTS = 16777216
WEIGHTS = (1, 256, 65536, 16777216)


class FormFault(Exception):
    """The first fault of a form: the rule that is broken, and the place."""

    def __init__(self, rule, place):
        self.rule = rule
        self.place = place


class Reader:
    """Bytes that are gone through once, from front to back."""

    def __init__(self, data):
        self.data = data
        self.place = 0

    def at_end(self):
        return self.place >= len(self.data)

    def look(self):
        """Give the byte that is due, and stay before it."""
        if self.at_end():
            raise FormFault(ENDS_EARLY, self.place)
        return self.data[self.place]

    def take(self):
        """Give the byte that is due, and go behind it."""
        byte = self.look()
        self.place += 1
        return byte

    def take_number(self):
        """Give the number that the next four bytes tell."""
        number = 0
        for weight in WEIGHTS:
            number += weight * self.take()
        return number

    def taken_from(self, start):
        return self.data[start:self.place]


def read_mark(reader, mark):
    for wanted in mark:
        if reader.look() != wanted:
            raise FormFault(WRONG_MARK, reader.place)
        reader.take()


def is_side(number):
    return 1 <= number <= LONGEST_SIDE


def is_size(width, height):
    return is_side(width) and is_side(height) and width * height <= MOST_POINTS


def read_width(reader):
    start = reader.place
    width = reader.take_number()
    if not is_side(width):
        raise FormFault(WRONG_SIZE, start)
    return width


def read_height(reader, width):
    start = reader.place
    height = reader.take_number()
    if not is_size(width, height):
        raise FormFault(WRONG_SIZE, start)
    return height


def read_rows(data, mark, read_row, write_row):
    """Give the rows of the form that data tells; a row that is told as the one above is the same list.

    read_row(reader, width, above) gives the row that is due, write_row(row, above) its bytes in the
    one form; above is None for the first row.
    """
    reader = Reader(data)
    read_mark(reader, mark)
    width = read_width(reader)
    height = read_height(reader, width)
    rows = []
    above = None
    while len(rows) < height:
        start = reader.place
        row = read_row(reader, width, above)
        # Only behind the whole row: a fault within it goes first, though its place is further on.
        if reader.taken_from(start) != write_row(row, above):
            raise FormFault(NOT_THE_ONE_FORM, start)
        rows.append(row)
        above = row
    if not reader.at_end():
        raise FormFault(BYTES_BEHIND, reader.place)
    return rows


def write_rows(rows, mark, write_row):
    """Give the bytes of the form that tells the rows; write_row as in read_rows."""
    told = list(mark) + number_bytes(len(rows[0])) + number_bytes(len(rows))
    above = None
    for row in rows:
        told.extend(write_row(row, above))
        above = row
    return told


def number_bytes(number):
    return [number // weight % 256 for weight in WEIGHTS]


def count_same(row, x, most):
    """How many of the same stand in the row from column x on, most at most."""
    end = x
    while end < len(row) and end - x < most and row[end] == row[x]:
        end += 1
    return end - x
