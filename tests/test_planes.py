"""plane: scans laid out as bits."""

import unittest
from itertools import product
from random import Random

from inkpaper.desk import plane
from tests.cases import CallCase
from tests.forms import SCAN_FAULTS, parted, picture_of, raw_scan, scan_of, streaky_rows

KINDS = (0, 1, 2)
WIDTHS = (1, 2, 62, 63, 64, 65, 127, 128, 129, 200)
FAR = 4294967295
FULL = 2 ** 64 - 1


def plane_by_the_words(kind, rows):
    """The words, each bit asked for by its place; a column behind the last has no point of any kind."""
    width = len(rows[0])
    words = []
    for row in rows:
        for j in range((width + 63) // 64):
            bits = ["1" if 64 * j + i < width and row[64 * j + i] == kind else "0" for i in range(64)]
            words.append(int("".join(reversed(bits)), 2))
    return words


class PlaneCase(CallCase):
    def assert_plane(self, kind, rows, words):
        self.assertEqual(plane(kind, scan_of(rows)), [0, len(words)] + words)


class Laid(PlaneCase):
    def test_one_point(self):
        for kind, point in product(KINDS, KINDS):
            self.assert_plane(kind, [[point]], [1 if kind == point else 0])

    def test_each_kind(self):
        rows = [[0, 1, 2, 1, 1, 0]]
        self.assert_plane(0, rows, [0b100001])
        self.assert_plane(1, rows, [0b011010])
        self.assert_plane(2, rows, [0b000100])

    def test_each_row_begins_a_new_word(self):
        rows = [[1, 0], [1, 1], [1, 1], [0, 1]]
        self.assert_plane(1, rows, [1, 3, 3, 2])
        self.assert_plane(0, rows, [2, 0, 0, 1])
        self.assert_plane(2, rows, [0, 0, 0, 0])
        rows = [[1] * 65, [0] * 64 + [1], [1] + [0] * 64]
        self.assert_plane(1, rows, [FULL, 1, 0, 1, 1, 0])
        self.assert_plane(0, rows, [0, 0, FULL, 0, FULL - 1, 1])

    def test_all_of_a_kind(self):
        for kind in KINDS:
            self.assert_plane(kind, [[kind] * 1], [1])
            self.assert_plane(kind, [[kind] * 63], [2 ** 63 - 1])
            self.assert_plane(kind, [[kind] * 64], [FULL])
            self.assert_plane(kind, [[kind] * 65], [FULL, 1])
            self.assert_plane(kind, [[kind] * 127], [FULL, 2 ** 63 - 1])
            self.assert_plane(kind, [[kind] * 128], [FULL, FULL])
            self.assert_plane(kind, [[kind] * 129], [FULL, FULL, 1])

    def test_none_of_a_kind(self):
        for kind in KINDS:
            for width in WIDTHS:
                self.assert_plane(kind, [[(kind + 1) % 3] * width] * 2, [0] * (2 * ((width + 63) // 64)))

    def test_nothing_behind_the_last_column(self):
        """Paper is 0, and places outside are unclear; neither has a bit behind the last column."""
        for kind in KINDS:
            for width in (1, 63, 65, 129):
                words = plane(kind, scan_of([[kind] * width]))[2:]
                self.assertEqual(words[-1], 2 ** ((width - 1) % 64 + 1) - 1)

    def test_first_and_last_column_of_a_word(self):
        for kind in KINDS:
            other = (kind + 1) % 3
            for width in (64, 65, 128, 129):
                row = [other] * width
                row[63] = kind
                self.assert_plane(kind, [row], [2 ** 63] + [0] * ((width - 1) // 64))
                row = [other] * width
                row[0] = kind
                self.assert_plane(kind, [row], [1] + [0] * ((width - 1) // 64))
            row = [other] * 129
            row[64] = row[127] = row[128] = kind
            self.assert_plane(kind, [row], [0, 2 ** 63 + 1, 1])

    def test_every_column(self):
        for width in (1, 63, 64, 65, 128, 129):
            for x in range(width):
                row = [0] * width
                row[x] = 1
                words = [0] * ((width + 63) // 64)
                words[x // 64] = 2 ** (x % 64)
                self.assert_plane(1, [row], words)

    def test_row_told_as_the_one_above(self):
        self.assertEqual(plane(1, raw_scan(3, 3, [64, 0, 64], [255], [255])), [0, 3, 5, 5, 5])

    def test_longest_sides(self):
        self.assert_plane(2, [[2] * 8192], [FULL] * 128)
        self.assert_plane(2, [[2]] * 8192, [1] * 8192)

    def test_against_the_words(self):
        random = Random(41)
        for width, height in product(WIDTHS, (1, 2, 3)):
            for rows in (streaky_rows(random, width, height, KINDS),
                         [[random.choice(KINDS) for x in range(width)] for y in range(height)]):
                for kind in KINDS:
                    self.assert_plane(kind, rows, plane_by_the_words(kind, rows))


class Refused(PlaneCase):
    def test_kind_that_may_not_be(self):
        for kind in (3, 4, 255, FAR):
            self.assertEqual(plane(kind, scan_of([[1, 0], [2, 1]])), [-1])
            for rule, place, scan in SCAN_FAULTS:
                self.assertEqual(plane(kind, scan), [-1])

    def test_faults_of_a_scan(self):
        for kind in KINDS:
            for rule, place, scan in SCAN_FAULTS:
                self.assertEqual(plane(kind, scan), [-5, 0, rule, place])
            self.assertEqual(plane(kind, picture_of([[1]])), [-5, 0, 1, 2])


class Promised(PlaneCase):
    def test_planes_part_the_points(self):
        random = Random(42)
        for width, height in product(WIDTHS, (1, 2)):
            rows = streaky_rows(random, width, height, KINDS)
            planes = [parted(plane(kind, scan_of(rows))[2:], (width + 63) // 64) for kind in KINDS]
            for y, row in enumerate(rows):
                for x, point in enumerate(row):
                    bits = [words[y][x // 64] // 2 ** (x % 64) % 2 for words in planes]
                    self.assertEqual(bits, [1 if kind == point else 0 for kind in KINDS])

    def test_planes_together_are_full(self):
        random = Random(43)
        for width in WIDTHS:
            scan = scan_of(streaky_rows(random, width, 2, KINDS))
            paper, ink, unclear = [plane(kind, scan)[2:] for kind in KINDS]
            last = 2 ** ((width - 1) % 64 + 1) - 1
            whole = ([FULL] * ((width - 1) // 64) + [last]) * 2
            self.assertEqual([a + b + c for a, b, c in zip(paper, ink, unclear, strict=True)], whole)
            self.assertEqual([a ^ b ^ c for a, b, c in zip(paper, ink, unclear, strict=True)], whole)

    def test_nothing_handed_in_is_changed(self):
        for kind in range(4):
            for scan in [scan for rule, place, scan in SCAN_FAULTS] + [scan_of([[1, 0, 1]] * 3)]:
                self.assert_unchanged(plane, kind, scan)

    def test_nothing_is_kept(self):
        rows = [[1, 0], [1, 1]]
        plane(1, scan_of(rows)).clear()
        plane(0, [])
        plane(3, scan_of(rows))
        self.assert_plane(1, rows, [1, 3])

    def test_answers_are_plain_whole_numbers(self):
        for answer in (plane(1, scan_of([[1] * 65])), plane(3, []), plane(1, [])):
            self.assert_plain(answer)


if __name__ == "__main__":
    unittest.main()
