"""write: a scan written in its one form."""

import unittest
from itertools import product
from random import Random

from inkpaper.desk import judge_scan, points, write
from tests.forms import parted, raw_scan, scan_of, streaky_rows


class WriteCase(unittest.TestCase):
    def assert_written(self, width, height, given, scan):
        self.assertEqual(write(width, height, given), [0, len(scan)] + scan)
        self.assertEqual(judge_scan(scan), [0, width, height])
        self.assertEqual(points(scan), [0, width * height] + given)

    def assert_row_written(self, row, runs):
        """The row is told by these runs, as the only row, as the first and as a later one."""
        width = len(row)
        self.assert_written(width, 1, row, raw_scan(width, 1, runs))
        self.assert_written(width, 2, row + row, raw_scan(width, 2, runs, [255]))
        other = [(kind + 1) % 3 for kind in row]
        self.assertEqual(write(width, 2, other + row)[-len(runs):], runs)

    def assert_refused(self, width, height, given):
        self.assertEqual(write(width, height, given), [-1])


class Written(WriteCase):
    def test_so_many_of_each_kind(self):
        for kind in range(3):
            self.assert_row_written([kind], [64 * kind])
            self.assert_row_written([kind] * 2, [64 * kind + 1])
            self.assert_row_written([kind] * 63, [64 * kind + 62])
            self.assert_row_written([kind] * 64, [64 * kind + 63])
            self.assert_row_written([kind] * 65, [64 * kind + 63, 64 * kind])
            self.assert_row_written([kind] * 128, [64 * kind + 63] * 2)
            self.assert_row_written([kind] * 129, [64 * kind + 63] * 2 + [64 * kind])

    def test_change_of_kind_at_column_64(self):
        for kind, other in product(range(3), repeat=2):
            if kind != other:
                for column in (1, 63, 64):
                    row = [kind] * column + [other] * 64
                    self.assert_row_written(row, [64 * kind + column - 1, 64 * other + 63])
                row = [kind] * 65 + [other] * 64
                self.assert_row_written(row, [64 * kind + 63, 64 * kind, 64 * other + 63])

    def test_runs_of_several_kinds(self):
        self.assert_row_written([0, 0, 1, 2, 2, 2], [1, 64, 130])
        self.assert_row_written([0, 1, 0, 1, 2, 0], [0, 64, 0, 64, 128, 0])

    def test_rows_as_the_one_above(self):
        self.assert_written(1, 6, [0, 0, 1, 1, 2, 2], raw_scan(1, 6, [0], [255], [64], [255], [128], [255]))
        self.assert_written(2, 3, [0, 1, 1, 0, 0, 1], raw_scan(2, 3, [0, 64], [64, 0], [0, 64]))
        self.assert_written(20, 20, [2] * 400, raw_scan(20, 20, [147], [255] * 19))

    def test_run_does_not_go_on_in_the_next_row(self):
        self.assert_written(2, 2, [0, 1, 1, 1], raw_scan(2, 2, [0, 64], [65]))

    def test_size_is_told_lowest_byte_first(self):
        self.assert_written(300, 1, [1] * 300, raw_scan(300, 1, [127] * 4, [107]))
        self.assert_written(1, 300, [1] * 300, raw_scan(1, 300, [64], [255] * 299))
        self.assertEqual(write(1, 300, [1] * 300)[2:14], [83, 72, 84, 49, 1, 0, 0, 0, 44, 1, 0, 0])

    def test_longest_sides(self):
        self.assert_written(8192, 1, [2] * 8192, scan_of([[2] * 8192]))
        self.assert_written(1, 8192, [2] * 8192, scan_of([[2]] * 8192))


class Refused(WriteCase):
    def test_side_of_none(self):
        for width, height in [(0, 0), (0, 1), (1, 0), (0, 4294967295), (4294967295, 0)]:
            self.assert_refused(width, height, [])
            self.assert_refused(width, height, [1])
        self.assertEqual(write(1, 1, [1])[0], 0)

    def test_side_too_long(self):
        for long in (8193, 8194, 10000):
            self.assert_refused(long, 1, [1] * long)
            self.assert_refused(1, long, [1] * long)
        self.assertEqual(write(1, 8192, [1] * 8192)[0], 0)

    def test_far_too_large(self):
        for width, height in [(8192, 2048), (8192, 2049), (8192, 8192), (65536, 65536), (4294967295, 4294967295),
                              (4294967295, 1), (1, 4294967295)]:
            for given in ([], [1], [1] * 1000):
                self.assert_refused(width, height, given)

    def test_other_number_of_points(self):
        for width, height in [(1, 1), (2, 3), (3, 2), (20, 20), (400, 1), (1, 400)]:
            due = width * height
            for length in (0, due - 1, due + 1, 2 * due, due + width, due - width, due + height, due - height, 1000):
                self.assert_refused(width, height, [1] * length)
            self.assertEqual(write(width, height, [1] * due)[0], 0)

    def test_no_such_kind(self):
        for kind in (3, 4, 64, 255, 4294967295):
            self.assert_refused(1, 1, [kind])
            for place in range(6):
                given = [0, 1, 2, 0, 1, 2]
                self.assertEqual(write(3, 2, given)[0], 0)
                given[place] = kind
                self.assert_refused(3, 2, given)
            self.assert_refused(2, 1, [kind])
            self.assert_refused(0, 1, [kind])


class Promised(WriteCase):
    def test_every_small_scan(self):
        for width, height in [(1, 1), (2, 1), (1, 2), (3, 2), (2, 3)]:
            for given in product(range(3), repeat=width * height):
                self.assert_written(width, height, list(given), scan_of(parted(list(given), width)))

    def test_what_is_written_is_read_as_the_same(self):
        random = Random(7)
        for width, height in [(1, 1), (1, 9), (9, 1), (5, 7), (20, 20), (65, 6), (131, 3), (200, 2), (400, 1)]:
            for values in ([0, 1], [0, 1, 2]):
                rows = streaky_rows(random, width, height, values)
                self.assert_written(width, height, sum(rows, []), scan_of(rows))

    def test_what_is_read_is_written_as_the_same_bytes(self):
        random = Random(8)
        accepted = 0
        for step in range(1500):
            scan = scan_of(streaky_rows(random, random.randrange(1, 9), random.randrange(1, 5), [0, 1, 2]))
            if step % 3:
                scan[random.randrange(12, len(scan))] = random.choice([0, 1, 2, 64, 65, 128, 129, 255])
            size = judge_scan(scan)
            if size[0] == 0:
                accepted += 1
                self.assertEqual(write(size[1], size[2], points(scan)[2:]), [0, len(scan)] + scan)
        self.assertGreater(accepted, 500)

    def test_nothing_handed_in_is_changed(self):
        for width, height, given in [(3, 2, [1] * 6), (3, 1, [0, 1, 2]), (3, 3, [1, 2]), (0, 0, []), (1, 1, [3])]:
            before = list(given)
            write(width, height, given)
            self.assertEqual(given, before)

    def test_nothing_is_kept(self):
        first = write(3, 2, [1] * 6)
        first.clear()
        write(3, 2, [1])
        self.assert_written(3, 2, [1] * 6, raw_scan(3, 2, [66], [255]))

    def test_answers_are_plain_whole_numbers(self):
        for answer in (write(0, 0, []), write(2, 2, [1, 0, 1, 0])):
            self.assertIs(type(answer), list)
            self.assertEqual({type(entry) for entry in answer}, {int})


if __name__ == "__main__":
    unittest.main()
