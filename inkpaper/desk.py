"""The calls: lists of whole numbers in, a list of whole numbers out."""

from inkpaper.form import FormFault
from inkpaper.picture import read_picture
from inkpaper.scan import read_scan

DONE = 0
NOT_SUCH_A_FORM = -5
FIRST_FORM = 0


def judge_picture(picture):
    """Answer W and H of a picture."""
    try:
        rows = read_picture(picture)
    except FormFault as fault:
        return form_refused(FIRST_FORM, fault)
    return size_answer(rows)


def judge_scan(scan):
    """Answer W and H of a scan."""
    try:
        rows = read_scan(scan)
    except FormFault as fault:
        return form_refused(FIRST_FORM, fault)
    return size_answer(rows)


def greys(picture):
    """Answer the greys of a picture, row by row."""
    try:
        rows = read_picture(picture)
    except FormFault as fault:
        return form_refused(FIRST_FORM, fault)
    return row_answer(joined(rows))


def form_refused(which, fault):
    return [NOT_SUCH_A_FORM, which, fault.rule, fault.place]


def size_answer(rows):
    return [DONE, len(rows[0]), len(rows)]


def row_answer(numbers):
    return [DONE, len(numbers)] + numbers


def joined(rows):
    """Put the rows behind one another."""
    numbers = []
    for row in rows:
        numbers.extend(row)
    return numbers
