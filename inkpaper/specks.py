"""Scans cleared of specks."""

from inkpaper.scan import INK, UNCLEAR

MOST_IN_SPECK = 4096
STEPS_AROUND = ((-1, -1), (0, -1), (1, -1), (-1, 0), (1, 0), (-1, 1), (0, 1), (1, 1))


def is_speck_size(k):
    return k <= MOST_IN_SPECK


def rows_without_specks(k, rows):
    """Give the rows with each point of a piece of k points at most unclear."""
    cleared = [list(row) for row in rows]
    for piece in pieces_of(rows):
        if len(piece) <= k:
            for x, y in piece:
                cleared[y][x] = UNCLEAR
    return cleared


def pieces_of(rows):
    """Give the pieces, each as a list of its places."""
    waiting = ink_places(rows)
    pieces = []
    for place in list(waiting):
        if place in waiting:
            pieces.append(take_piece(waiting, place))
    return pieces


def ink_places(rows):
    """Give the places (x, y) of all points of ink as the keys of a dict."""
    places = {}
    for y, row in enumerate(rows):
        for x, kind in enumerate(row):
            if kind == INK:
                places[(x, y)] = True
    return places


def take_piece(waiting, start):
    """Take the piece that has the place start out of the places that wait, and give it."""
    waiting.pop(start)
    piece = [start]
    looked_around = 0
    # A loop, not a call within a call: a piece may be longer than calls may be nested.
    while looked_around < len(piece):
        middle = piece[looked_around]
        looked_around += 1
        for place in places_around(middle):
            if place in waiting:
                waiting.pop(place)
                piece.append(place)
    return piece


def places_around(middle):
    return [(middle[0] + right, middle[1] + down) for right, down in STEPS_AROUND]
