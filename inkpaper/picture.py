"""A picture's form: rows of greys."""

from inkpaper.form import FormFault, TOO_MANY, WRONG_START, count_same, read_rows, write_rows

MARK = (83, 72, 71, 49)
ROW_ANEW = 0
ROW_AS_ABOVE = 1
# An item's first byte from here on is of the second kind: one grey that stands there several times.
FIRST_OF_SAME = 128
LEAST_SAME = 3
MOST_SAME = 130
MOST_GREYS = 128


def read_picture(data):
    """Give the rows of greys of the picture that data tells."""
    return read_rows(data, MARK, read_row, write_row)


def write_picture(rows):
    """Give the bytes of the picture with these rows of greys."""
    return write_rows(rows, MARK, write_row)


def read_row(reader, width, above):
    start = reader.place
    first = reader.take()
    if first == ROW_AS_ABOVE and above is not None:
        return above
    if first != ROW_ANEW:
        raise FormFault(WRONG_START, start)
    row = []
    while len(row) < width:
        row.extend(read_item(reader, width - len(row)))
    return row


def read_item(reader, left):
    """Give the greys of the item that is due, where the row has so many left."""
    start = reader.place
    first = reader.take()
    length = item_length(first)
    # The first byte alone tells it, so it goes before an end of the bytes within the item.
    if length > left:
        raise FormFault(TOO_MANY, start)
    if first >= FIRST_OF_SAME:
        return [reader.take()] * length
    return [reader.take() for step in range(length)]


def item_length(first):
    if first >= FIRST_OF_SAME:
        return first - FIRST_OF_SAME + LEAST_SAME
    return first + 1


def write_row(row, above):
    """Give the bytes of a row in the one form."""
    if row == above:
        return [ROW_AS_ABOVE]
    told = [ROW_ANEW]
    x = 0
    while x < len(row):
        same = count_same(row, x, MOST_SAME)
        if same >= LEAST_SAME:
            told.append(FIRST_OF_SAME + same - LEAST_SAME)
            told.append(row[x])
            x += same
        else:
            end = greys_end(row, x)
            told.append(end - x - 1)
            told.extend(row[x:end])
            x = end
    return told


def greys_end(row, x):
    """The column where an item of the first kind that begins at x ends."""
    end = x + 1
    while end < len(row) and end - x < MOST_GREYS and count_same(row, end, LEAST_SAME) < LEAST_SAME:
        end += 1
    return end
