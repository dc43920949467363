"""count and apart: points of scans counted."""

import unittest
from itertools import product
from random import Random

from inkpaper.desk import apart, count
from tests.cases import CallCase
from tests.forms import SCAN_FAULTS, picture_of, raw_scan, scan_of, streaky_rows

PAPER, INK, UNCLEAR = KINDS = (0, 1, 2)
FAR = 4294967295
FAULTY = [scan for rule, place, scan in SCAN_FAULTS]


class Counted(CallCase):
    ROWS = [[0, 1, 2, 0], [1, 1, 0, 0], [2, 0, 1, 1]]

    def assert_counted(self, box, rows, numbers):
        self.assertEqual(count(*box, scan_of(rows)), [0] + numbers)

    def test_whole_scan(self):
        self.assert_counted((0, 0, 4, 3), self.ROWS, [5, 5, 2])

    def test_one_point_of_each_kind(self):
        self.assert_counted((0, 0, 1, 1), [[0]], [1, 0, 0])
        self.assert_counted((0, 0, 1, 1), [[1]], [0, 1, 0])
        self.assert_counted((0, 0, 1, 1), [[2]], [0, 0, 1])
        self.assert_counted((3, 0, 4, 1), self.ROWS, [1, 0, 0])
        self.assert_counted((3, 2, 4, 3), self.ROWS, [0, 1, 0])
        self.assert_counted((0, 2, 1, 3), self.ROWS, [0, 0, 1])

    def test_box_in_the_middle(self):
        self.assert_counted((1, 1, 3, 2), self.ROWS, [1, 1, 0])
        self.assert_counted((1, 0, 3, 3), self.ROWS, [2, 3, 1])
        self.assert_counted((1, 1, 4, 3), self.ROWS, [3, 3, 0])

    def test_all_of_a_kind(self):
        self.assert_counted((0, 0, 20, 20), [[0] * 20] * 20, [400, 0, 0])
        self.assert_counted((0, 0, 20, 20), [[1] * 20] * 20, [0, 400, 0])
        self.assert_counted((0, 0, 20, 20), [[2] * 20] * 20, [0, 0, 400])
        self.assert_counted((1, 1, 19, 19), [[1] * 20] * 20, [0, 324, 0])

    def test_row_told_as_the_one_above(self):
        self.assertEqual(count(1, 1, 3, 3, raw_scan(3, 3, [64, 0, 64], [255], [255])), [0, 2, 2, 0])

    def test_every_box_against_the_words(self):
        random = Random(51)
        for width, height in [(1, 1), (4, 3), (3, 4), (1, 6), (6, 1), (66, 2)]:
            rows = streaky_rows(random, width, height, KINDS)
            for x0, y0 in product(range(width), range(height)):
                for x1, y1 in product(range(x0 + 1, width + 1), range(y0 + 1, height + 1)):
                    within = [rows[y][x] for x in range(x0, x1) for y in range(y0, y1)]
                    numbers = [within.count(kind) for kind in KINDS]
                    self.assertEqual(sum(numbers), (x1 - x0) * (y1 - y0))
                    self.assert_counted((x0, y0, x1, y1), rows, numbers)

    def test_numbers_add_up(self):
        random = Random(52)
        for width, height in [(20, 20), (400, 1), (1, 400), (131, 3)]:
            scan = scan_of(streaky_rows(random, width, height, KINDS))
            for step in range(30):
                x0, x1 = sorted(random.sample(range(width + 1), 2))
                y0, y1 = sorted(random.sample(range(height + 1), 2))
                answer = count(x0, y0, x1, y1, scan)
                self.assertEqual(len(answer), 4)
                self.assertEqual([answer[0], sum(answer[1:])], [0, (x1 - x0) * (y1 - y0)])

    def test_parts_add_up_to_the_whole(self):
        random = Random(53)
        scan = scan_of(streaky_rows(random, 20, 20, KINDS))
        whole = count(0, 0, 20, 20, scan)
        for at in range(1, 20):
            columns = [count(0, 0, at, 20, scan), count(at, 0, 20, 20, scan)]
            rows = [count(0, 0, 20, at, scan), count(0, at, 20, 20, scan)]
            self.assertEqual([a + b for a, b in zip(*columns, strict=True)], whole)
            self.assertEqual([a + b for a, b in zip(*rows, strict=True)], whole)

    def test_longest_sides(self):
        self.assert_counted((0, 0, 8192, 1), [[2] * 8191 + [1]], [0, 1, 8191])
        self.assert_counted((0, 1, 1, 8192), [[2]] * 8191 + [[1]], [0, 1, 8190])

    def test_box_that_does_not_fit(self):
        scan = scan_of(self.ROWS)
        no_point = [(0, 0, 0, 3), (4, 0, 4, 3), (2, 0, 2, 3), (3, 0, 2, 3), (4, 0, 0, 3), (0, 0, 4, 0), (0, 3, 4, 3),
                    (0, 1, 4, 1), (0, 2, 4, 1), (0, 3, 4, 0), (0, 0, 0, 0), (4, 3, 0, 0), (4, 3, 4, 3)]
        outside = [(0, 0, 5, 3), (4, 0, 5, 3), (3, 0, 5, 3), (0, 0, 4, 4), (0, 3, 4, 4), (0, 2, 4, 4), (0, 0, 5, 4),
                   (5, 4, 6, 5), (0, 0, 3, 4), (3, 2, 5, 3), (3, 2, 4, 4)]
        for box in no_point + outside:
            self.assertEqual(count(*box, scan), [-2], box)

    def test_numbers_that_are_far_off(self):
        scan = scan_of(self.ROWS)
        whole = (0, 0, 4, 3)
        for place in range(4):
            self.assertEqual(count(*whole[:place], FAR, *whole[place + 1:], scan), [-2])
        for box in [(FAR, FAR, FAR, FAR), (FAR - 1, FAR - 1, FAR, FAR), (0, 0, FAR, FAR)]:
            self.assertEqual(count(*box, scan), [-2])

    def test_faults_of_a_scan_go_before_the_box(self):
        for box in [(0, 0, 1, 1), (0, 0, 0, 0), (1, 1, 0, 0), (0, 0, 99, 99), (FAR, FAR, FAR, FAR)]:
            for rule, place, scan in SCAN_FAULTS:
                self.assertEqual(count(*box, scan), [-5, 0, rule, place])
            self.assertEqual(count(*box, picture_of([[1]])), [-5, 0, 1, 2])

    def test_nothing_handed_in_is_changed(self):
        for scan in FAULTY + [scan_of(self.ROWS), scan_of([[1, 1, 0]] * 3)]:
            for box in [(0, 0, 1, 1), (1, 1, 3, 3), (0, 0, 3, 3), (0, 0, 0, 0)]:
                self.assert_unchanged(count, *box, scan)

    def test_nothing_is_kept(self):
        count(1, 0, 3, 3, scan_of(self.ROWS)).clear()
        count(0, 0, 0, 0, scan_of(self.ROWS))
        count(0, 0, 2, 2, [])
        self.assert_counted((1, 0, 3, 3), self.ROWS, [2, 3, 1])

    def test_answers_are_plain_whole_numbers(self):
        for answer in (count(0, 0, 1, 1, scan_of([[1]])), count(0, 0, 2, 1, scan_of([[1]])), count(0, 0, 1, 1, [])):
            self.assert_plain(answer)


class Apart(CallCase):
    SIZES = [(1, 1), (1, 9), (9, 1), (5, 7), (20, 20), (65, 6), (131, 3), (400, 1), (1, 400)]

    def assert_apart(self, one, other, number):
        self.assertEqual(apart(scan_of(one), scan_of(other)), [0, number])

    def apart_of(self, one, other):
        answer = apart(one, other)
        self.assertEqual([answer[0], len(answer)], [0, 2])
        return answer[1]

    def test_two_points(self):
        for one, other in product(KINDS, KINDS):
            self.assert_apart([[one]], [[other]], 1 if (one, other) in [(INK, PAPER), (PAPER, INK)] else 0)

    def test_same_scan_twice(self):
        for rows in ([[0]], [[1]], [[2]], [[0, 1, 2], [1, 1, 0]], [[1] * 20] * 20):
            scan = scan_of(rows)
            self.assertEqual(apart(scan, scan), [0, 0])
            self.assertEqual(apart(scan, list(scan)), [0, 0])

    def test_ink_against_paper(self):
        self.assert_apart([[1] * 20] * 20, [[0] * 20] * 20, 400)
        self.assert_apart([[0] * 20] * 20, [[1] * 20] * 20, 400)
        self.assert_apart([[0, 1, 0, 1]], [[1, 0, 0, 1]], 2)
        self.assert_apart([[0, 1], [1, 1], [1, 1]], [[0, 0], [1, 0], [0, 1]], 3)

    def test_unclear_is_not_counted(self):
        self.assert_apart([[1] * 20] * 20, [[2] * 20] * 20, 0)
        self.assert_apart([[0] * 20] * 20, [[2] * 20] * 20, 0)
        self.assert_apart([[0, 0, 0, 1, 1, 1, 2, 2, 2]], [[0, 1, 2, 0, 1, 2, 0, 1, 2]], 2)

    def test_places_count_and_not_numbers_of_points(self):
        self.assert_apart([[0, 1]], [[1, 0]], 2)
        self.assert_apart([[0, 1], [1, 0]], [[1, 0], [0, 1]], 4)

    def test_against_the_words(self):
        random = Random(54)
        for width, height in self.SIZES:
            one = streaky_rows(random, width, height, KINDS)
            other = streaky_rows(random, width, height, KINDS)
            pairs = [(one[y][x], other[y][x]) for x in range(width) for y in range(height)]
            self.assert_apart(one, other, pairs.count((0, 1)) + pairs.count((1, 0)))

    def test_longest_sides(self):
        self.assert_apart([[1] * 8192], [[0] * 8191 + [1]], 8191)
        self.assert_apart([[1]] * 8192, [[1]] + [[0]] * 8191, 8191)

    def test_scans_of_two_sizes(self):
        sizes = [(1, 1), (2, 1), (1, 2), (2, 2), (3, 2), (2, 3), (6, 1), (1, 6), (20, 20), (400, 1), (1, 400)]
        for one, other in product(sizes, sizes):
            scans = [scan_of([[1] * width] * height) for width, height in (one, other)]
            self.assertEqual(apart(*scans), [0, 0] if one == other else [-2])

    def test_fault_in_the_first(self):
        for rule, place, scan in SCAN_FAULTS:
            for other in (scan_of([[1]]), scan_of([[1, 0]] * 3)):
                self.assertEqual(apart(scan, other), [-5, 0, rule, place])
        self.assertEqual(apart(picture_of([[1]]), scan_of([[1]])), [-5, 0, 1, 2])

    def test_fault_in_the_second(self):
        for rule, place, scan in SCAN_FAULTS:
            for one in (scan_of([[1]]), scan_of([[1, 0]] * 3)):
                self.assertEqual(apart(one, scan), [-5, 1, rule, place])
        self.assertEqual(apart(scan_of([[1]]), picture_of([[1]])), [-5, 1, 1, 2])

    def test_faults_in_both(self):
        for rule, place, scan in SCAN_FAULTS:
            for other in FAULTY:
                self.assertEqual(apart(scan, other), [-5, 0, rule, place])

    def test_goes_both_ways(self):
        random = Random(55)
        for width, height in self.SIZES:
            one = scan_of(streaky_rows(random, width, height, KINDS))
            other = scan_of(streaky_rows(random, width, height, KINDS))
            self.assertEqual(apart(one, other), apart(other, one))

    def test_by_way_of_a_clear_scan_no_less(self):
        random = Random(56)
        for width, height in self.SIZES:
            for step in range(5):
                one = scan_of(streaky_rows(random, width, height, KINDS))
                other = scan_of(streaky_rows(random, width, height, KINDS))
                clear = scan_of(streaky_rows(random, width, height, [PAPER, INK]))
                by_way = self.apart_of(one, clear) + self.apart_of(clear, other)
                self.assertLessEqual(self.apart_of(one, other), by_way)

    def test_by_way_of_every_small_clear_scan(self):
        for one, other in product(product(KINDS, repeat=2), repeat=2):
            for clear in product((PAPER, INK), repeat=2):
                scans = [scan_of([list(row)]) for row in (one, clear, other)]
                by_way = self.apart_of(scans[0], scans[1]) + self.apart_of(scans[1], scans[2])
                self.assertLessEqual(self.apart_of(scans[0], scans[2]), by_way)

    def test_by_way_of_an_unclear_scan_may_be_less(self):
        self.assert_apart([[1]], [[0]], 1)
        self.assert_apart([[1]], [[2]], 0)
        self.assert_apart([[2]], [[0]], 0)

    def test_nothing_handed_in_is_changed(self):
        scans = FAULTY + [scan_of([[1, 1, 0]] * 3), scan_of([[0, 1, 0]] * 3), scan_of([[2]])]
        for one, other in product(scans, scans):
            self.assert_unchanged(apart, one, other)

    def test_nothing_is_kept(self):
        one, other = scan_of([[0, 1, 0, 1]]), scan_of([[1, 0, 0, 1]])
        apart(one, other).clear()
        apart(one, [])
        apart(scan_of([[1]]), other)
        self.assertEqual(apart(one, other), [0, 2])

    def test_answers_are_plain_whole_numbers(self):
        good = scan_of([[1, 0], [1, 0]])
        for answer in (apart(good, good), apart(good, scan_of([[1]])), apart([], good), apart(good, [])):
            self.assert_plain(answer)


if __name__ == "__main__":
    unittest.main()
