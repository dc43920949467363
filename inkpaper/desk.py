"""The calls: lists of whole numbers in, a list of whole numbers out."""

from inkpaper.counts import are_same_size, count_apart, kind_counts
from inkpaper.form import FormFault, is_size
from inkpaper.moves import is_pose, is_turn, posed_rows, turned_rows
from inkpaper.parts import Box, fit_together, is_join, put_together
from inkpaper.picture import read_picture, write_picture
from inkpaper.planes import plane_words
from inkpaper.scan import are_kinds, is_kind, read_scan, write_scan
from inkpaper.specks import is_speck_size, rows_without_specks
from inkpaper.window import Rule, tell_rows

DONE = 0
MAY_NOT_BE = -1
DOES_NOT_FIT = -2
NOT_SUCH_A_FORM = -5
TOO_LARGE = -6
FIRST_FORM = 0
SECOND_FORM = 1


def judge_picture(picture):
    """Answer W and H of a picture."""
    try:
        rows = read_picture(picture)
    except FormFault as fault:
        return form_refused(FIRST_FORM, fault)
    return size_answer(rows)


def judge_scan(scan):
    """Answer W and H of a scan."""
    try:
        rows = read_scan(scan)
    except FormFault as fault:
        return form_refused(FIRST_FORM, fault)
    return size_answer(rows)


def greys(picture):
    """Answer the greys of a picture, row by row."""
    try:
        rows = read_picture(picture)
    except FormFault as fault:
        return form_refused(FIRST_FORM, fault)
    return row_answer(joined(rows))


def draw(width, height, shades):
    """Answer the picture of that size with these greys, row by row."""
    if not fills(width, height, shades):
        return [MAY_NOT_BE]
    return row_answer(write_picture(parted(shades, width)))


def points(scan):
    """Answer the points of a scan, row by row."""
    try:
        rows = read_scan(scan)
    except FormFault as fault:
        return form_refused(FIRST_FORM, fault)
    return row_answer(joined(rows))


def write(width, height, given):
    """Answer the scan of that size with these points, row by row."""
    if not fills(width, height, given) or not are_kinds(given):
        return [MAY_NOT_BE]
    return row_answer(write_scan(parted(given, width)))


def tell(r, dark, light, below, near, picture):
    """Answer the scan that a rule tells of a picture."""
    rule = Rule(r, dark, light, below, near)
    if not rule.is_so():
        return [MAY_NOT_BE]
    try:
        rows = read_picture(picture)
    except FormFault as fault:
        return form_refused(FIRST_FORM, fault)
    return row_answer(write_scan(tell_rows(rule, rows)))


def pose(s, scan):
    """Answer a scan in pose s."""
    if not is_pose(s):
        return [MAY_NOT_BE]
    try:
        rows = read_scan(scan)
    except FormFault as fault:
        return form_refused(FIRST_FORM, fault)
    return row_answer(write_scan(posed_rows(s, rows)))


def turn(quarters, scan):
    """Answer a scan turned by quarters to the right."""
    if not is_turn(quarters):
        return [MAY_NOT_BE]
    try:
        rows = read_scan(scan)
    except FormFault as fault:
        return form_refused(FIRST_FORM, fault)
    return row_answer(write_scan(turned_rows(quarters, rows)))


def cut(x0, y0, x1, y1, scan):
    """Answer a scan cut to a box."""
    box = Box(x0, y0, x1, y1)
    try:
        rows = read_scan(scan)
    except FormFault as fault:
        return form_refused(FIRST_FORM, fault)
    if not box.lies_in(rows):
        return [DOES_NOT_FIT]
    return row_answer(write_scan(box.rows_within(rows)))


def join(side, one, other):
    """Answer two scans in one, the second beside the first (side 0) or below it (1)."""
    if not is_join(side):
        return [MAY_NOT_BE]
    try:
        first = read_scan(one)
    except FormFault as fault:
        return form_refused(FIRST_FORM, fault)
    try:
        second = read_scan(other)
    except FormFault as fault:
        return form_refused(SECOND_FORM, fault)
    if not fit_together(side, first, second):
        return [TOO_LARGE]
    return row_answer(write_scan(put_together(side, first, second)))


def unspeck(k, scan):
    """Answer a scan without specks of k."""
    if not is_speck_size(k):
        return [MAY_NOT_BE]
    try:
        rows = read_scan(scan)
    except FormFault as fault:
        return form_refused(FIRST_FORM, fault)
    return row_answer(write_scan(rows_without_specks(k, rows)))


def plane(kind, scan):
    """Answer the plane of a kind: words of 64 bits, row by row."""
    if not is_kind(kind):
        return [MAY_NOT_BE]
    try:
        rows = read_scan(scan)
    except FormFault as fault:
        return form_refused(FIRST_FORM, fault)
    return row_answer(plane_words(kind, rows))


def count(x0, y0, x1, y1, scan):
    """Answer how many points of a box are paper, ink, unclear."""
    box = Box(x0, y0, x1, y1)
    try:
        rows = read_scan(scan)
    except FormFault as fault:
        return form_refused(FIRST_FORM, fault)
    if not box.lies_in(rows):
        return [DOES_NOT_FIT]
    return [DONE] + kind_counts(box.rows_within(rows))


def apart(one, other):
    """Answer how many points are ink in one of two scans and paper in the other."""
    try:
        first = read_scan(one)
    except FormFault as fault:
        return form_refused(FIRST_FORM, fault)
    try:
        second = read_scan(other)
    except FormFault as fault:
        return form_refused(SECOND_FORM, fault)
    if not are_same_size(first, second):
        return [DOES_NOT_FIT]
    return [DONE, count_apart(first, second)]


def fills(width, height, numbers):
    """Whether there is such a size, and the numbers are one for each of its points."""
    return is_size(width, height) and len(numbers) == width * height


def form_refused(which, fault):
    return [NOT_SUCH_A_FORM, which, fault.rule, fault.place]


def size_answer(rows):
    return [DONE, len(rows[0]), len(rows)]


def row_answer(numbers):
    return [DONE, len(numbers)] + numbers


def joined(rows):
    """Put the rows behind one another."""
    numbers = []
    for row in rows:
        numbers.extend(row)
    return numbers


def parted(numbers, width):
    """Part the numbers into rows of that width."""
    return [numbers[start:start + width] for start in range(0, len(numbers), width)]
