"""The calls: lists of whole numbers in, a list of whole numbers out."""

from inkpaper.form import FormFault, is_size
from inkpaper.moves import is_pose, is_turn, posed_rows, turned_rows
from inkpaper.picture import read_picture, write_picture
from inkpaper.scan import are_kinds, read_scan, write_scan
from inkpaper.window import Rule, tell_rows

DONE = 0
MAY_NOT_BE = -1
NOT_SUCH_A_FORM = -5
FIRST_FORM = 0


def judge_picture(picture):
    """Answer W and H of a picture."""
    try:
        rows = read_picture(picture)
    except FormFault as fault:
        return form_refused(FIRST_FORM, fault)
    return size_answer(rows)


def judge_scan(scan):
    """Answer W and H of a scan."""
    try:
        rows = read_scan(scan)
    except FormFault as fault:
        return form_refused(FIRST_FORM, fault)
    return size_answer(rows)


def greys(picture):
    """Answer the greys of a picture, row by row."""
    try:
        rows = read_picture(picture)
    except FormFault as fault:
        return form_refused(FIRST_FORM, fault)
    return row_answer(joined(rows))


def draw(width, height, shades):
    """Answer the picture of that size with these greys, row by row."""
    if not fills(width, height, shades):
        return [MAY_NOT_BE]
    return row_answer(write_picture(parted(shades, width)))


def points(scan):
    """Answer the points of a scan, row by row."""
    try:
        rows = read_scan(scan)
    except FormFault as fault:
        return form_refused(FIRST_FORM, fault)
    return row_answer(joined(rows))


def write(width, height, given):
    """Answer the scan of that size with these points, row by row."""
    if not fills(width, height, given) or not are_kinds(given):
        return [MAY_NOT_BE]
    return row_answer(write_scan(parted(given, width)))


def tell(r, dark, light, below, near, picture):
    """Answer the scan that a rule tells of a picture."""
    rule = Rule(r, dark, light, below, near)
    if not rule.is_so():
        return [MAY_NOT_BE]
    try:
        rows = read_picture(picture)
    except FormFault as fault:
        return form_refused(FIRST_FORM, fault)
    return row_answer(write_scan(tell_rows(rule, rows)))


def pose(s, scan):
    """Answer a scan in pose s."""
    if not is_pose(s):
        return [MAY_NOT_BE]
    try:
        rows = read_scan(scan)
    except FormFault as fault:
        return form_refused(FIRST_FORM, fault)
    return row_answer(write_scan(posed_rows(s, rows)))


def turn(quarters, scan):
    """Answer a scan turned by quarters to the right."""
    if not is_turn(quarters):
        return [MAY_NOT_BE]
    try:
        rows = read_scan(scan)
    except FormFault as fault:
        return form_refused(FIRST_FORM, fault)
    return row_answer(write_scan(turned_rows(quarters, rows)))


def fills(width, height, numbers):
    """Whether there is such a size, and the numbers are one for each of its points."""
    return is_size(width, height) and len(numbers) == width * height


def form_refused(which, fault):
    return [NOT_SUCH_A_FORM, which, fault.rule, fault.place]


def size_answer(rows):
    return [DONE, len(rows[0]), len(rows)]


def row_answer(numbers):
    return [DONE, len(numbers)] + numbers


def joined(rows):
    """Put the rows behind one another."""
    numbers = []
    for row in rows:
        numbers.extend(row)
    return numbers


def parted(numbers, width):
    """Part the numbers into rows of that width."""
    return [numbers[start:start + width] for start in range(0, len(numbers), width)]
