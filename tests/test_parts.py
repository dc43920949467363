"""cut and join: scans cut to boxes and put together."""

import unittest
from random import Random

from inkpaper.desk import cut, join, judge_scan
from tests.cases import CallCase
from tests.forms import SCAN_FAULTS, picture_of, raw_scan, scan_of, streaky_rows

SIZES = [(1, 1), (1, 2), (2, 1), (1, 9), (9, 1), (2, 2), (5, 7), (7, 5), (20, 20), (65, 6), (6, 65), (131, 3), (3, 133),
         (400, 1), (1, 400)]
FAR = 4294967295
BESIDE, BELOW = 0, 1
FAULTY = [scan for rule, place, scan in SCAN_FAULTS]


def joined_by_the_words(side, one, other):
    """Each point of the larger scan: of the first, of the second, or unclear."""
    wide, high = len(one[0]), len(one)
    right, down = (wide, 0) if side == BESIDE else (0, high)
    placed = {(x, y): kind for y, row in enumerate(one) for x, kind in enumerate(row)}
    placed.update({(x + right, y + down): kind for y, row in enumerate(other) for x, kind in enumerate(row)})
    width = max(x for x, y in placed) + 1
    height = max(y for x, y in placed) + 1
    return [[placed.get((x, y), 2) for x in range(width)] for y in range(height)]


class PartCase(CallCase):
    def assert_cut(self, box, rows, within):
        self.assert_scan_answer(cut(*box, scan_of(rows)), within)

    def assert_joined(self, side, one, other, rows):
        self.assert_scan_answer(join(side, scan_of(one), scan_of(other)), rows)


class Cut(PartCase):
    ROWS = [[0, 1, 2, 0], [1, 1, 0, 0], [2, 0, 1, 1]]

    def test_whole_scan(self):
        self.assert_cut((0, 0, 4, 3), self.ROWS, self.ROWS)
        self.assert_cut((0, 0, 1, 1), [[1]], [[1]])

    def test_one_point_in_each_corner(self):
        rows = [[0, 2, 1], [0, 0, 0], [2, 1, 0]]
        self.assert_cut((0, 0, 1, 1), rows, [[0]])
        self.assert_cut((2, 0, 3, 1), rows, [[1]])
        self.assert_cut((0, 2, 1, 3), rows, [[2]])
        self.assert_cut((2, 2, 3, 3), rows, [[0]])

    def test_one_row(self):
        for y in range(3):
            self.assert_cut((0, y, 4, y + 1), self.ROWS, [self.ROWS[y]])

    def test_one_column(self):
        for x in range(4):
            self.assert_cut((x, 0, x + 1, 3), self.ROWS, [[row[x]] for row in self.ROWS])

    def test_boxes_in_the_middle(self):
        self.assert_cut((1, 1, 3, 2), self.ROWS, [[1, 0]])
        self.assert_cut((1, 0, 3, 3), self.ROWS, [[1, 2], [1, 0], [0, 1]])
        self.assert_cut((0, 1, 4, 3), self.ROWS, self.ROWS[1:])
        self.assert_cut((1, 1, 4, 3), self.ROWS, [[1, 0, 0], [0, 1, 1]])

    def test_rows_that_come_to_be_the_same(self):
        rows = [[0, 1, 1], [2, 1, 1], [0, 1, 1]]
        self.assertEqual(cut(1, 0, 3, 3, scan_of(rows)), [0, 15] + raw_scan(2, 3, [65], [255], [255]))

    def test_first_row_was_told_as_the_one_above(self):
        self.assertEqual(cut(0, 1, 2, 3, raw_scan(3, 3, [66], [255], [255])), [0, 14] + raw_scan(2, 2, [65], [255]))

    def test_runs_are_cut(self):
        self.assertEqual(cut(3, 0, 133, 1, scan_of([[1] * 140])), [0, 15] + raw_scan(130, 1, [127, 127, 65]))

    def test_every_box(self):
        random = Random(21)
        for width, height in [(1, 1), (4, 3), (3, 4), (1, 6), (6, 1)]:
            rows = streaky_rows(random, width, height, [0, 1, 2])
            for x0 in range(width):
                for y0 in range(height):
                    for x1 in range(x0 + 1, width + 1):
                        for y1 in range(y0 + 1, height + 1):
                            within = [[rows[y][x] for x in range(x0, x1)] for y in range(y0, y1)]
                            self.assert_cut((x0, y0, x1, y1), rows, within)

    def test_longest_sides(self):
        self.assert_cut((1, 0, 8192, 1), [[2] * 8191 + [1]], [[2] * 8190 + [1]])
        self.assert_cut((0, 1, 1, 8192), [[2]] * 8191 + [[1]], [[2]] * 8190 + [[1]])

    def test_box_that_does_not_fit(self):
        scan = scan_of(self.ROWS)
        no_point = [(0, 0, 0, 3), (4, 0, 4, 3), (2, 0, 2, 3), (3, 0, 2, 3), (4, 0, 0, 3), (1, 0, 0, 3),
                    (0, 0, 4, 0), (0, 3, 4, 3), (0, 1, 4, 1), (0, 2, 4, 1), (0, 3, 4, 0), (0, 1, 4, 0),
                    (0, 0, 0, 0), (4, 3, 0, 0), (4, 3, 4, 3)]
        outside = [(0, 0, 5, 3), (4, 0, 5, 3), (3, 0, 5, 3), (0, 0, 4, 4), (0, 3, 4, 4), (0, 2, 4, 4), (0, 0, 5, 4),
                   (5, 4, 6, 5), (0, 0, 3, 4), (3, 2, 5, 3), (3, 2, 4, 4)]
        for box in no_point + outside:
            self.assertEqual(cut(*box, scan), [-2], box)

    def test_numbers_that_are_far_off(self):
        scan = scan_of(self.ROWS)
        whole = (0, 0, 4, 3)
        for place in range(4):
            self.assertEqual(cut(*whole[:place], FAR, *whole[place + 1:], scan), [-2])
        self.assertEqual(cut(FAR, FAR, FAR, FAR, scan), [-2])
        self.assertEqual(cut(FAR - 1, FAR - 1, FAR, FAR, scan), [-2])
        self.assertEqual(cut(0, 0, FAR, FAR, scan), [-2])

    def test_width_and_height_are_not_mixed_up(self):
        self.assertEqual(cut(0, 0, 3, 4, scan_of(self.ROWS)), [-2])
        self.assert_cut((0, 0, 1, 400), [[1]] * 400, [[1]] * 400)
        self.assertEqual(cut(0, 0, 400, 1, scan_of([[1]] * 400)), [-2])
        self.assert_cut((0, 0, 400, 1), [[1] * 400], [[1] * 400])
        self.assertEqual(cut(0, 0, 1, 400, scan_of([[1] * 400])), [-2])

    def test_faults_of_a_scan_go_before_the_box(self):
        for box in [(0, 0, 1, 1), (0, 0, 0, 0), (1, 1, 0, 0), (0, 0, 99, 99), (FAR, FAR, FAR, FAR)]:
            for rule, place, scan in SCAN_FAULTS:
                self.assertEqual(cut(*box, scan), [-5, 0, rule, place])
            self.assertEqual(cut(*box, picture_of([[1]])), [-5, 0, 1, 2])

    def test_nothing_handed_in_is_changed(self):
        for scan in FAULTY + [scan_of(self.ROWS), scan_of([[1, 1, 0]] * 3)]:
            for box in [(0, 0, 1, 1), (1, 1, 3, 3), (0, 0, 3, 3), (0, 0, 0, 0)]:
                self.assert_unchanged(cut, *box, scan)

    def test_nothing_is_kept(self):
        cut(1, 1, 3, 2, scan_of(self.ROWS)).clear()
        cut(0, 0, 0, 0, scan_of(self.ROWS))
        cut(0, 0, 2, 2, [])
        self.assert_cut((1, 1, 3, 2), self.ROWS, [[1, 0]])

    def test_answers_are_plain_whole_numbers(self):
        for answer in (cut(0, 0, 1, 1, scan_of([[1]])), cut(0, 0, 2, 1, scan_of([[1]])), cut(0, 0, 1, 1, [])):
            self.assert_plain(answer)


class Joined(PartCase):
    def test_same_size(self):
        one, other = [[0, 1], [1, 2]], [[1, 1], [0, 0]]
        self.assert_joined(BESIDE, one, other, [[0, 1, 1, 1], [1, 2, 0, 0]])
        self.assert_joined(BELOW, one, other, [[0, 1], [1, 2], [1, 1], [0, 0]])

    def test_beside_one_that_is_higher(self):
        low, high = [[0, 1]], [[1], [0], [1]]
        self.assert_joined(BESIDE, low, high, [[0, 1, 1], [2, 2, 0], [2, 2, 1]])
        self.assert_joined(BESIDE, high, low, [[1, 0, 1], [0, 2, 2], [1, 2, 2]])

    def test_below_one_that_is_wider(self):
        narrow, wide = [[0], [1]], [[1, 0, 1]]
        self.assert_joined(BELOW, narrow, wide, [[0, 2, 2], [1, 2, 2], [1, 0, 1]])
        self.assert_joined(BELOW, wide, narrow, [[1, 0, 1], [0, 2, 2], [1, 2, 2]])

    def test_size_along_the_join_may_be_any(self):
        self.assert_joined(BESIDE, [[1, 0, 1]], [[0]], [[1, 0, 1, 0]])
        self.assert_joined(BESIDE, [[0]], [[1, 0, 1]], [[0, 1, 0, 1]])
        self.assert_joined(BELOW, [[1], [0], [1]], [[0]], [[1], [0], [1], [0]])
        self.assert_joined(BELOW, [[0]], [[1], [0], [1]], [[0], [1], [0], [1]])

    def test_one_point_and_one_point(self):
        for one in range(3):
            for other in range(3):
                self.assert_joined(BESIDE, [[one]], [[other]], [[one, other]])
                self.assert_joined(BELOW, [[one]], [[other]], [[one], [other]])

    def test_same_scan_as_both(self):
        rows = [[0, 1, 2], [1, 1, 0]]
        scan = scan_of(rows)
        self.assert_scan_answer(join(BESIDE, scan, scan), [row + row for row in rows])
        self.assert_scan_answer(join(BELOW, scan, scan), rows + rows)
        self.assertEqual(scan, scan_of(rows))

    def test_bytes_of_the_answer(self):
        one, other = raw_scan(2, 2, [65], [255]), raw_scan(1, 1, [64])
        self.assertEqual(join(BESIDE, one, other), [0, 15] + raw_scan(3, 2, [66], [65, 128]))
        self.assertEqual(join(BELOW, one, other), [0, 16] + raw_scan(2, 3, [65], [255], [64, 128]))
        self.assertEqual(join(BELOW, one, one), [0, 16] + raw_scan(2, 4, [65], [255], [255], [255]))
        self.assertEqual(join(BESIDE, scan_of([[1] * 60]), scan_of([[1] * 60])), [0, 14] + raw_scan(120, 1, [127, 119]))

    def test_against_the_words(self):
        random = Random(22)
        for wide, high in SIZES:
            for width, height in SIZES:
                one = streaky_rows(random, wide, high, [0, 1, 2])
                other = streaky_rows(random, width, height, [0, 1, 2])
                for side in (BESIDE, BELOW):
                    self.assert_joined(side, one, other, joined_by_the_words(side, one, other))

    def test_cut_in_two_and_joined(self):
        random = Random(23)
        for width, height in SIZES:
            whole = scan_of(streaky_rows(random, width, height, [0, 1, 2]))
            for x in range(1, width):
                left, right = cut(0, 0, x, height, whole)[2:], cut(x, 0, width, height, whole)[2:]
                self.assertEqual(join(BESIDE, left, right), [0, len(whole)] + whole)
            for y in range(1, height):
                top, bottom = cut(0, 0, width, y, whole)[2:], cut(0, y, width, height, whole)[2:]
                self.assertEqual(join(BELOW, top, bottom), [0, len(whole)] + whole)

    def test_parts_are_cut_out_again(self):
        random = Random(24)
        for wide, high in SIZES[:9]:
            for width, height in SIZES[:9]:
                one = scan_of(streaky_rows(random, wide, high, [0, 1, 2]))
                other = scan_of(streaky_rows(random, width, height, [0, 1, 2]))
                beside, below = join(BESIDE, one, other)[2:], join(BELOW, one, other)[2:]
                self.assertEqual(cut(0, 0, wide, high, beside)[2:], one)
                self.assertEqual(cut(wide, 0, wide + width, height, beside)[2:], other)
                self.assertEqual(cut(0, 0, wide, high, below)[2:], one)
                self.assertEqual(cut(0, high, width, high + height, below)[2:], other)

    def test_side_that_may_not_be(self):
        good = scan_of([[1, 0], [0, 1]])
        for side in (2, 3, 256, FAR):
            self.assertEqual(join(side, good, good), [-1])
            for scan in FAULTY:
                self.assertEqual(join(side, scan, good), [-1])
                self.assertEqual(join(side, good, scan), [-1])
                self.assertEqual(join(side, scan, scan), [-1])

    def test_fault_in_the_first(self):
        for side in (BESIDE, BELOW):
            for rule, place, scan in SCAN_FAULTS:
                self.assertEqual(join(side, scan, scan_of([[1]])), [-5, 0, rule, place])
            self.assertEqual(join(side, picture_of([[1]]), scan_of([[1]])), [-5, 0, 1, 2])

    def test_fault_in_the_second(self):
        for side in (BESIDE, BELOW):
            for rule, place, scan in SCAN_FAULTS:
                self.assertEqual(join(side, scan_of([[1]]), scan), [-5, 1, rule, place])
            self.assertEqual(join(side, scan_of([[1]]), picture_of([[1]])), [-5, 1, 1, 2])

    def test_faults_in_both(self):
        for side in (BESIDE, BELOW):
            for rule, place, scan in SCAN_FAULTS:
                for other in FAULTY:
                    self.assertEqual(join(side, scan, other), [-5, 0, rule, place])

    def test_too_long_a_side(self):
        longest, one = scan_of([[2] * 8192]), scan_of([[1]])
        self.assertEqual(join(BESIDE, longest, one), [-6])
        self.assertEqual(join(BESIDE, one, longest), [-6])
        self.assertEqual(join(BESIDE, longest, longest), [-6])
        self.assertEqual(join(BESIDE, scan_of([[2] * 4096]), scan_of([[2] * 4097])), [-6])
        highest = scan_of([[2]] * 8192)
        self.assertEqual(join(BELOW, highest, one), [-6])
        self.assertEqual(join(BELOW, one, highest), [-6])
        self.assertEqual(join(BELOW, highest, highest), [-6])
        self.assertEqual(join(BELOW, scan_of([[2]] * 4096), scan_of([[2]] * 4097)), [-6])

    def test_longest_side(self):
        self.assert_joined(BESIDE, [[2] * 8191], [[1]], [[2] * 8191 + [1]])
        self.assert_joined(BESIDE, [[1]], [[2] * 8191], [[1] + [2] * 8191])
        self.assert_joined(BESIDE, [[0] * 4096], [[0] * 4096], [[0] * 8192])
        self.assert_joined(BELOW, [[2]] * 8191, [[1]], [[2]] * 8191 + [[1]])
        self.assert_joined(BELOW, [[1]], [[2]] * 8191, [[1]] + [[2]] * 8191)
        self.assert_joined(BELOW, [[0]] * 4096, [[0]] * 4096, [[0]] * 8192)
        self.assert_joined(BELOW, [[2] * 8192], [[1]], [[2] * 8192, [1] + [2] * 8191])

    def test_most_points(self):
        """The points of the whole count, also those that neither of the two has."""
        long_row, high = scan_of([[2] * 8191]), scan_of([[2]] * 2049)
        self.assertEqual(join(BESIDE, long_row, high), [-6])
        self.assertEqual(join(BESIDE, high, long_row), [-6])
        row, highest = scan_of([[2] * 2049]), scan_of([[2]] * 8191)
        self.assertEqual(join(BELOW, row, highest), [-6])
        self.assertEqual(join(BELOW, highest, row), [-6])
        answer = join(BESIDE, scan_of([[2] * 8191]), scan_of([[2]] * 2048))
        self.assertEqual(judge_scan(answer[2:]), [0, 8192, 2048])

    def test_faults_go_before_what_is_too_large(self):
        longest = scan_of([[2] * 8192])
        for rule, place, scan in SCAN_FAULTS:
            self.assertEqual(join(BESIDE, longest, scan), [-5, 1, rule, place])
            self.assertEqual(join(BESIDE, scan, longest), [-5, 0, rule, place])
        self.assertEqual(join(2, longest, longest), [-1])

    def test_nothing_handed_in_is_changed(self):
        scans = FAULTY + [scan_of([[1, 1, 0]] * 3), scan_of([[2], [2], [1], [1]])]
        for side in (BESIDE, BELOW, 2):
            for one in scans:
                for other in scans:
                    self.assert_unchanged(join, side, one, other)

    def test_nothing_is_kept(self):
        low, high = [[0, 1]], [[1], [0], [1]]
        join(BESIDE, scan_of(low), scan_of(high)).clear()
        join(BELOW, scan_of(low), [])
        join(2, scan_of(low), scan_of(high))
        self.assert_joined(BESIDE, low, high, [[0, 1, 1], [2, 2, 0], [2, 2, 1]])

    def test_answers_are_plain_whole_numbers(self):
        good = scan_of([[1, 0], [1, 0]])
        for answer in (join(0, good, good), join(1, good, good), join(2, [], []), join(0, [], good), join(1, good, [])):
            self.assert_plain(answer)


if __name__ == "__main__":
    unittest.main()
