"""A scan's form: rows of paper (0), ink (1) and unclear (2)."""

from inkpaper.form import FormFault, TOO_MANY, WRONG_START, count_same, read_rows, write_rows

PAPER = 0
INK = 1
UNCLEAR = 2

MARK = (83, 72, 84, 49)
ROW_AS_ABOVE = 255
MOST_IN_RUN = 64
# From here on a byte would tell a run of a kind that there isn't.
FIRST_NO_RUN = 192


def read_scan(data):
    """Give the rows of points of the scan that data tells."""
    return read_rows(data, MARK, read_row, write_row)


def write_scan(rows):
    """Give the bytes of the scan with these rows of points."""
    return write_rows(rows, MARK, write_row)


def is_kind(number):
    return number <= UNCLEAR


def are_kinds(numbers):
    return all([is_kind(number) for number in numbers])


def read_row(reader, width, above):
    if above is not None and reader.look() == ROW_AS_ABOVE:
        reader.take()
        return above
    row = []
    while len(row) < width:
        row.extend(read_run(reader, width - len(row)))
    return row


def read_run(reader, left):
    """Give the points of the run that is due, where the row has so many left."""
    start = reader.place
    byte = reader.take()
    if byte >= FIRST_NO_RUN:
        raise FormFault(WRONG_START, start)
    length = byte % MOST_IN_RUN + 1
    if length > left:
        raise FormFault(TOO_MANY, start)
    return [byte // MOST_IN_RUN] * length


def write_row(row, above):
    """Give the bytes of a row in the one form."""
    if row == above:
        return [ROW_AS_ABOVE]
    told = []
    x = 0
    while x < len(row):
        length = count_same(row, x, MOST_IN_RUN)
        told.append(MOST_IN_RUN * row[x] + length - 1)
        x += length
    return told
