"""Scans laid out as bits."""

WORD_BITS = 64


def plane_words(kind, rows):
    """Give the words of the plane of that kind, row by row."""
    words = []
    for row in rows:
        words.extend(row_words(kind, row))
    return words


def row_words(kind, row):
    return [word_of(kind, row[start:start + WORD_BITS]) for start in range(0, len(row), WORD_BITS)]


def word_of(kind, part):
    """Give the word with a bit for each point of a part of a row, from the lowest bit on."""
    word = 0
    weight = 1
    for point in part:
        if point == kind:
            word += weight
        weight *= 2
    return word
