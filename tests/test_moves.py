"""pose and turn: scans moved."""

import unittest
from fractions import Fraction
from math import floor
from random import Random

from inkpaper.desk import pose, turn
from tests.cases import CallCase
from tests.forms import SCAN_FAULTS, picture_of, raw_scan, scan_of, streaky_rows

SIZES = [(1, 1), (1, 2), (2, 1), (1, 9), (9, 1), (2, 2), (5, 7), (7, 5), (20, 20), (65, 6), (6, 65), (100, 4), (4, 100),
         (131, 3), (3, 133), (400, 1), (1, 400)]
FAR = 4294967295


def posed_by_the_words(s, rows):
    width, height = len(rows[0]), len(rows)
    posed = [[2] * width for row in rows]
    for y, row in enumerate(rows):
        steps = floor(Fraction(s * (2 * y - height), 2 * height))
        for x, kind in enumerate(row):
            if 0 <= x + steps < width:
                posed[y][x + steps] = kind
    return posed


def turned_by_the_words(rows):
    width, height = len(rows[0]), len(rows)
    turned = [[None] * height for column in range(width)]
    for y, row in enumerate(rows):
        for x, kind in enumerate(row):
            turned[x][height - 1 - y] = kind
    return turned


class MoveCase(CallCase):
    def assert_posed(self, s, rows, posed):
        self.assert_scan_answer(pose(s, scan_of(rows)), posed)

    def assert_turned(self, quarters, rows, turned):
        self.assert_scan_answer(turn(quarters, scan_of(rows)), turned)


class Posed(MoveCase):
    def test_even_number_of_rows(self):
        rows = [[0, 1, 0, 1, 0]] * 4
        self.assert_posed(4, rows, [[0, 1, 0, 2, 2], [1, 0, 1, 0, 2], [0, 1, 0, 1, 0], [2, 0, 1, 0, 1]])
        self.assert_posed(-4, rows, [[2, 2, 0, 1, 0], [2, 0, 1, 0, 1], [0, 1, 0, 1, 0], [1, 0, 1, 0, 2]])

    def test_odd_number_of_rows(self):
        rows = [[0, 1, 0, 1, 0]] * 3
        self.assert_posed(1, rows, [[1, 0, 1, 0, 2], [1, 0, 1, 0, 2], [0, 1, 0, 1, 0]])
        self.assert_posed(-1, rows, [[0, 1, 0, 1, 0], [0, 1, 0, 1, 0], [1, 0, 1, 0, 2]])
        self.assert_posed(6, rows, [[1, 0, 2, 2, 2], [1, 0, 1, 0, 2], [2, 0, 1, 0, 1]])
        self.assert_posed(-6, rows, [[2, 2, 2, 0, 1], [2, 0, 1, 0, 1], [1, 0, 1, 0, 2]])

    def test_pose_of_one_step(self):
        rows = [[0, 1, 1, 0]] * 2
        self.assert_posed(1, rows, [[1, 1, 0, 2], [0, 1, 1, 0]])
        self.assert_posed(-1, rows, rows)
        self.assert_posed(-1, [[0, 1, 1, 0]] * 4, [[0, 1, 1, 0], [0, 1, 1, 0], [0, 1, 1, 0], [1, 1, 0, 2]])

    def test_one_row(self):
        row = [1, 0, 1, 1, 0] * 4
        self.assert_posed(1, [row], [row[1:] + [2]])
        self.assert_posed(2, [row], [row[1:] + [2]])
        self.assert_posed(3, [row], [row[2:] + [2, 2]])
        self.assert_posed(31, [row], [row[16:] + [2] * 16])
        self.assert_posed(-1, [row], [row])
        self.assert_posed(-2, [row], [[2] + row[:-1]])
        self.assert_posed(-3, [row], [[2] + row[:-1]])
        self.assert_posed(-31, [row], [[2] * 15 + row[:-15]])

    def test_all_columns_go_out(self):
        self.assert_posed(31, [[1, 0, 1]], [[2, 2, 2]])
        self.assert_posed(-31, [[1, 0, 1]], [[2, 2, 2]])
        self.assert_posed(31, [[1], [1], [1], [1]], [[2], [2], [1], [2]])
        self.assert_posed(-31, [[1], [1], [1], [1]], [[2], [2], [1], [2]])
        self.assert_posed(31, [[1] * 15, [1] * 15], [[2] * 15, [1] * 15])
        self.assert_posed(31, [[1] * 16], [[2] * 16])
        self.assert_posed(31, [[1] * 17], [[1] + [2] * 16])

    def test_bytes_of_the_answer(self):
        self.assertEqual(pose(2, raw_scan(3, 2, [66], [255])), [0, 15] + raw_scan(3, 2, [65, 128], [66]))

    def test_every_pose_against_the_words(self):
        random = Random(12)
        for s in range(-31, 32):
            for width, height in SIZES:
                rows = streaky_rows(random, width, height, [0, 1, 2])
                self.assert_posed(s, rows, posed_by_the_words(s, rows))

    def test_pose_0_changes_nothing(self):
        random = Random(13)
        for width, height in SIZES:
            rows = streaky_rows(random, width, height, [0, 1, 2])
            self.assert_posed(0, rows, rows)

    def test_pose_that_may_not_be(self):
        for s in (-32, 32, -33, 33, 64, -2147483648, 2147483647):
            self.assertEqual(pose(s, scan_of([[1, 0], [0, 1]])), [-1])
            for rule, place, scan in SCAN_FAULTS:
                self.assertEqual(pose(s, scan), [-1])

    def test_faults_of_a_scan(self):
        for s in (-31, -1, 0, 1, 31):
            for rule, place, scan in SCAN_FAULTS:
                self.assertEqual(pose(s, scan), [-5, 0, rule, place])
            self.assertEqual(pose(s, picture_of([[1]])), [-5, 0, 1, 2])

    def test_nothing_handed_in_is_changed(self):
        for s in (-32, -31, 0, 5):
            for scan in [scan for rule, place, scan in SCAN_FAULTS] + [scan_of([[1, 0, 1]] * 3)]:
                self.assert_unchanged(pose, s, scan)

    def test_nothing_is_kept(self):
        rows = [[0, 1, 0, 1, 0]] * 3
        pose(6, scan_of(rows)).clear()
        pose(31, [])
        pose(32, scan_of(rows))
        self.assert_posed(6, rows, [[1, 0, 2, 2, 2], [1, 0, 1, 0, 2], [2, 0, 1, 0, 1]])

    def test_answers_are_plain_whole_numbers(self):
        for answer in (pose(3, scan_of([[1, 0], [1, 0]])), pose(32, []), pose(1, [])):
            self.assert_plain(answer)


class Turned(MoveCase):
    def test_wider_than_high(self):
        rows = [[0, 1, 2], [1, 1, 0]]
        self.assert_turned(0, rows, rows)
        self.assert_turned(1, rows, [[1, 0], [1, 1], [0, 2]])
        self.assert_turned(2, rows, [[0, 1, 1], [2, 1, 0]])
        self.assert_turned(3, rows, [[2, 0], [1, 1], [0, 1]])

    def test_higher_than_wide(self):
        rows = [[0, 1], [2, 2], [1, 0]]
        self.assert_turned(0, rows, rows)
        self.assert_turned(1, rows, [[1, 2, 0], [0, 2, 1]])
        self.assert_turned(2, rows, [[0, 1], [2, 2], [1, 0]])
        self.assert_turned(3, rows, [[1, 2, 0], [0, 2, 1]])

    def test_one_row_and_one_column(self):
        row = [[0, 1, 1, 2]]
        column = [[0], [1], [1], [2]]
        self.assert_turned(1, row, column)
        self.assert_turned(2, row, [[2, 1, 1, 0]])
        self.assert_turned(3, row, [[2], [1], [1], [0]])
        self.assert_turned(1, column, [[2, 1, 1, 0]])
        self.assert_turned(2, column, [[2], [1], [1], [0]])
        self.assert_turned(3, column, row)

    def test_one_point(self):
        for kind in range(3):
            for quarters in range(4):
                self.assert_turned(quarters, [[kind]], [[kind]])

    def test_bytes_of_the_answer(self):
        self.assertEqual(turn(1, raw_scan(3, 2, [66], [2])), [0, 16] + raw_scan(2, 3, [0, 64], [255], [255]))

    def test_longest_sides(self):
        self.assert_turned(1, [[2] * 8192], [[2]] * 8192)
        self.assert_turned(3, [[2]] * 8192, [[2] * 8192])

    def test_against_the_words(self):
        random = Random(14)
        for width, height in SIZES:
            rows = streaky_rows(random, width, height, [0, 1, 2])
            turned = rows
            for quarters in range(4):
                self.assert_turned(quarters, rows, turned)
                turned = turned_by_the_words(turned)

    def test_four_quarters_are_none(self):
        random = Random(15)
        for width, height in SIZES:
            whole = scan_of(streaky_rows(random, width, height, [0, 1, 2]))
            for steps in ([1, 1, 1, 1], [2, 2], [1, 3], [3, 1], [1, 2, 1], [3, 3, 3, 3], [0]):
                scan = whole
                for quarters in steps:
                    scan = turn(quarters, scan)[2:]
                self.assertEqual(scan, whole)

    def test_quarters_that_may_not_be(self):
        for quarters in (4, 5, 8, FAR):
            self.assertEqual(turn(quarters, scan_of([[1, 0], [0, 1]])), [-1])
            for rule, place, scan in SCAN_FAULTS:
                self.assertEqual(turn(quarters, scan), [-1])

    def test_faults_of_a_scan(self):
        for quarters in range(4):
            for rule, place, scan in SCAN_FAULTS:
                self.assertEqual(turn(quarters, scan), [-5, 0, rule, place])
            self.assertEqual(turn(quarters, picture_of([[1]])), [-5, 0, 1, 2])

    def test_nothing_handed_in_is_changed(self):
        for quarters in range(5):
            for scan in [scan for rule, place, scan in SCAN_FAULTS] + [scan_of([[1, 0, 1]] * 3)]:
                self.assert_unchanged(turn, quarters, scan)

    def test_nothing_is_kept(self):
        rows = [[0, 1, 2], [1, 1, 0]]
        turn(1, scan_of(rows)).clear()
        turn(3, [])
        turn(4, scan_of(rows))
        self.assert_turned(1, rows, [[1, 0], [1, 1], [0, 2]])

    def test_answers_are_plain_whole_numbers(self):
        for answer in (turn(3, scan_of([[1, 0], [1, 0]])), turn(4, []), turn(1, [])):
            self.assert_plain(answer)


if __name__ == "__main__":
    unittest.main()
