"""judge_scan and points: scans in their one form."""

import unittest
from itertools import product
from random import Random

from inkpaper.desk import judge_scan, points
from tests.forms import raw_scan, scan_of, streaky_rows


class ScanCase(unittest.TestCase):
    def assert_scan(self, width, height, told, scan):
        self.assertEqual(judge_scan(scan), [0, width, height])
        self.assertEqual(points(scan), [0, width * height] + told)

    def assert_refused(self, rule, place, scan):
        self.assertEqual(judge_scan(scan), [-5, 0, rule, place])
        self.assertEqual(points(scan), [-5, 0, rule, place])

    def assert_refused_for_good(self, rule, place, scan):
        """The fault is told, and it stays whatever bytes follow."""
        self.assert_refused(rule, place, scan)
        for tail in ([0], [1], [64], [128], [192], [255], [0] * 20, [255] * 20, list(range(256))):
            self.assert_refused(rule, place, scan + tail)


class Accepted(ScanCase):
    def test_one_point_of_each_kind(self):
        for kind, run in enumerate([0, 64, 128]):
            self.assert_scan(1, 1, [kind], raw_scan(1, 1, [run]))

    def test_longest_run_of_each_kind(self):
        for kind, run in enumerate([63, 127, 191]):
            self.assert_scan(64, 1, [kind] * 64, raw_scan(64, 1, [run]))

    def test_every_run(self):
        for kind in range(3):
            for length in range(1, 65):
                self.assert_scan(length, 1, [kind] * length, raw_scan(length, 1, [64 * kind + length - 1]))

    def test_more_points_than_one_run_tells(self):
        for kind in range(3):
            self.assert_scan(65, 1, [kind] * 65, raw_scan(65, 1, [64 * kind + 63, 64 * kind]))
            self.assert_scan(128, 1, [kind] * 128, raw_scan(128, 1, [64 * kind + 63] * 2))
            self.assert_scan(400, 1, [kind] * 400, raw_scan(400, 1, [64 * kind + 63] * 6, [64 * kind + 15]))

    def test_runs_of_several_kinds(self):
        self.assert_scan(6, 1, [0, 0, 1, 2, 2, 2], raw_scan(6, 1, [1, 64, 130]))
        self.assert_scan(6, 1, [0, 1, 0, 1, 2, 0], raw_scan(6, 1, [0, 64, 0, 64, 128, 0]))

    def test_many_rows(self):
        told = [0, 0, 0, 0] * 2 + [1, 1, 2, 2] * 2 + [0, 0, 0, 0]
        self.assert_scan(4, 5, told, raw_scan(4, 5, [3], [255], [65, 129], [255], [3]))
        self.assert_scan(2, 3, [0, 1, 1, 0, 0, 1], raw_scan(2, 3, [0, 64], [64, 0], [0, 64]))

    def test_size_uses_all_bytes_lowest_first(self):
        self.assert_scan(300, 1, [0] * 300, raw_scan(300, 1, [63] * 4, [43]))
        self.assert_scan(1, 300, [0] * 300, raw_scan(1, 300, [0], [255] * 299))

    def test_longest_sides_and_most_points(self):
        self.assert_scan(8192, 1, [2] * 8192, scan_of([[2] * 8192]))
        self.assert_scan(1, 8192, [2] * 8192, scan_of([[2]] * 8192))
        self.assertEqual(judge_scan(scan_of([[2] * 8192] * 2048)), [0, 8192, 2048])

    def test_scans_of_all_sorts(self):
        random = Random(3)
        for width, height in [(1, 1), (1, 9), (9, 1), (5, 7), (20, 20), (65, 6), (131, 3), (200, 2), (400, 1)]:
            rows = streaky_rows(random, width, height, [0, 1, 2])
            self.assert_scan(width, height, sum(rows, []), scan_of(rows))


class Refused(ScanCase):
    def test_no_bytes(self):
        self.assert_refused(5, 0, [])

    def test_mark_breaks_off(self):
        for length in range(1, 4):
            self.assert_refused(5, length, [83, 72, 84, 49][:length])

    def test_mark_wrong(self):
        whole = raw_scan(1, 1, [0])
        for place in range(4):
            for byte in set(range(256)) - {whole[place]}:
                self.assert_refused(1, place, whole[:place] + [byte] + whole[place + 1:])
            self.assert_refused_for_good(1, place, whole[:place] + [0])

    def test_picture_is_no_scan(self):
        self.assert_refused(1, 2, [83, 72, 71, 49, 1, 0, 0, 0, 1, 0, 0, 0, 0, 0, 0])

    def test_width_and_height_break_off(self):
        whole = raw_scan(1, 1)
        for length in range(4, 13):
            self.assert_refused(5, length, whole[:length])
        self.assert_refused(5, 7, whole[:4] + [255, 255, 255])
        self.assert_refused(5, 11, whole[:8] + [255, 255, 255])
        self.assert_refused(5, 7, whole[:4] + [0, 0, 0])
        self.assert_refused(5, 11, whole[:8] + [0, 0, 0])

    def test_width_may_not_be(self):
        for width in (0, 8193, 65537, 2 ** 24, 2 ** 24 + 1, 2 ** 31, 2 ** 32 - 1):
            self.assert_refused_for_good(2, 4, raw_scan(width, 0)[:8])
            self.assert_refused(2, 4, raw_scan(width, 0, [0]))
            self.assert_refused(2, 4, raw_scan(width, 1, [0]))

    def test_height_may_not_be(self):
        for height in (0, 8193, 65537, 2 ** 24, 2 ** 24 + 1, 2 ** 31, 2 ** 32 - 1):
            self.assert_refused_for_good(2, 8, raw_scan(1, height))

    def test_too_many_points(self):
        for width, height in [(8192, 2049), (2049, 8192), (8192, 8192), (4097, 4096)]:
            self.assert_refused_for_good(2, 8, raw_scan(width, height))
        for width, height in [(8192, 2048), (2048, 8192), (4096, 4096)]:
            self.assert_refused(5, 12, raw_scan(width, height))

    def test_no_run_where_one_is_due(self):
        for byte in range(192, 256):
            self.assert_refused_for_good(3, 12, raw_scan(2, 2, [byte]))
            self.assert_refused_for_good(3, 13, raw_scan(2, 2, [0, byte]))
            self.assert_refused_for_good(3, 14, raw_scan(2, 2, [1], [64, byte]))
        for byte in range(192, 255):
            self.assert_refused_for_good(3, 13, raw_scan(2, 2, [1], [byte]))
            self.assert_refused_for_good(3, 14, raw_scan(2, 3, [1], [255], [byte]))

    def test_run_tells_too_many(self):
        for kind in range(3):
            for width in (1, 2, 63):
                for length in range(width + 1, 65):
                    self.assert_refused(4, 12, raw_scan(width, 1, [64 * kind + length - 1]))
            self.assert_refused_for_good(4, 12, raw_scan(1, 1, [64 * kind + 1]))
            self.assert_refused_for_good(4, 12, raw_scan(63, 1, [64 * kind + 63]))

    def test_later_run_tells_too_many(self):
        self.assert_refused_for_good(4, 13, raw_scan(3, 1, [1, 65]))
        self.assert_refused_for_good(4, 13, raw_scan(65, 1, [63, 1]))
        self.assert_refused_for_good(4, 14, raw_scan(2, 2, [1], [64, 1]))

    def test_every_beginning_ends_early(self):
        for rows in ([[1]], [[0, 1, 2], [0, 1, 2], [1, 1, 1], [1, 1, 1]], [[1] * 65 + [0] * 130 + [2]]):
            whole = scan_of(rows)
            for length in range(len(whole)):
                self.assert_refused(5, length, whole[:length])

    def test_bytes_behind(self):
        for rows in ([[1]], [[1, 1], [1, 1]], [[0, 1, 2], [2, 1, 0]], [[1] * 65]):
            whole = scan_of(rows)
            for tail in ([0], [192], [255], [64, 64], whole):
                self.assert_refused(7, len(whole), whole + tail)

    def test_row_told_otherwise(self):
        for width, runs in [(2, [0, 0]), (3, [1, 0]), (3, [0, 1]), (4, [64, 65, 128]), (4, [0, 64, 128, 128]),
                            (65, [0, 63]), (65, [62, 1]), (128, [63, 62, 0]), (128, [62, 63, 0])]:
            self.assert_refused_for_good(6, 12, raw_scan(width, 1, runs))

    def test_row_as_above_told_anew(self):
        for kind in range(3):
            self.assert_refused_for_good(6, 13, raw_scan(1, 2, [64 * kind], [64 * kind]))
        self.assert_refused_for_good(6, 14, raw_scan(1, 3, [64], [255], [64]))
        self.assert_refused_for_good(6, 14, raw_scan(2, 2, [0, 64], [0, 64]))
        self.assert_refused_for_good(6, 13, raw_scan(2, 2, [1], [0, 0]))

    def test_row_told_otherwise_is_told_behind_the_row(self):
        otherwise = raw_scan(3, 2, [0, 0])
        self.assert_refused(5, 14, otherwise)
        self.assert_refused_for_good(6, 12, otherwise + [64])
        self.assert_refused_for_good(4, 14, otherwise + [65])
        self.assert_refused_for_good(3, 14, otherwise + [192])

    def test_first_of_two_faults(self):
        self.assert_refused(1, 1, [83, 0, 0, 49] + raw_scan(0, 0)[4:])
        self.assert_refused(1, 3, [83, 72, 84, 0])
        self.assert_refused(2, 4, raw_scan(0, 0, [192]))
        self.assert_refused(2, 8, raw_scan(1, 0, [192]))
        self.assert_refused(3, 12, raw_scan(2, 2, [255, 192]))
        self.assert_refused(4, 12, raw_scan(2, 2, [2, 192]))
        self.assert_refused(6, 12, raw_scan(2, 2, [0, 0], [192]))
        self.assert_refused(6, 12, raw_scan(2, 2, [0, 0], [2]))
        self.assert_refused(6, 12, raw_scan(2, 2, [0, 0]))
        self.assert_refused(6, 12, raw_scan(2, 2, [0, 0], [0, 0]))
        self.assert_refused(6, 12, raw_scan(2, 1, [0, 0], [9]))
        self.assert_refused(3, 13, raw_scan(2, 3, [1], [192], [2]))


class Promised(ScanCase):
    def test_one_form_each(self):
        """Of all bytes that could tell a scan just as many are accepted as there are scans."""
        alphabet = [0, 1, 2, 64, 65, 66, 128, 129, 130, 192, 255]
        bodies = [body for length in range(5) for body in product(alphabet, repeat=length)]
        for width, height in [(1, 1), (2, 1), (3, 1), (1, 2), (1, 3), (1, 4), (2, 2)]:
            accepted = [body for body in bodies if judge_scan(raw_scan(width, height, body))[0] == 0]
            scans = product(product(range(3), repeat=width), repeat=height)
            wanted = {tuple(scan_of(list(rows))[12:]) for rows in scans}
            self.assertEqual(len(wanted), 3 ** (width * height))
            self.assertEqual(set(accepted), wanted)

    def test_fault_stays_in_changed_scans(self):
        random = Random(4)
        for turn in range(1000):
            scan = scan_of(streaky_rows(random, random.randrange(1, 12), random.randrange(1, 6), [0, 1, 2]))
            scan[random.randrange(12, len(scan))] = random.randrange(256)
            answer = judge_scan(scan)
            if answer[0] == -5 and answer[2] not in (5, 7):
                self.assert_refused(answer[2], answer[3], scan + [random.randrange(256)])
                self.assert_refused(answer[2], answer[3], scan + [255, 0, 64, 128])

    def test_nothing_handed_in_is_changed(self):
        for scan in ([], scan_of([[1, 1, 1], [1, 1, 1]]), raw_scan(2, 1, [0, 0]), [1, 2, 3]):
            before = list(scan)
            judge_scan(scan)
            points(scan)
            self.assertEqual(scan, before)

    def test_nothing_is_kept(self):
        scan = scan_of([[1, 1, 1], [1, 1, 1], [0, 1, 2]])
        judge_scan(scan).clear()
        points(scan).clear()
        points(raw_scan(2, 1, [0, 0]))
        self.assert_scan(3, 3, [1, 1, 1, 1, 1, 1, 0, 1, 2], scan)

    def test_answers_are_plain_whole_numbers(self):
        for answer in (judge_scan([]), judge_scan(scan_of([[1]])), points([]), points(scan_of([[1, 0], [1, 0]]))):
            self.assertIs(type(answer), list)
            self.assertEqual({type(entry) for entry in answer}, {int})


if __name__ == "__main__":
    unittest.main()
