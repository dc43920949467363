"""unspeck: scans cleared of specks."""

import unittest
from itertools import product
from random import Random

from inkpaper.desk import points, unspeck
from tests.cases import CallCase
from tests.forms import SCAN_FAULTS, parted, picture_of, raw_scan, scan_of, streaky_rows

FAR = 4294967295
# As a page would be drawn: ink, paper, unclear.
SIGNS = {"#": 1, ".": 0, "?": 2}


def drawn(*lines):
    return [[SIGNS[sign] for sign in line] for line in lines]


def cleared_by_the_words(k, rows):
    """Points that touch, and so on: each takes on the least number of those that it touches, till none changes."""
    numbers = {(x, y): y * len(row) + x for y, row in enumerate(rows) for x, kind in enumerate(row) if kind == 1}
    changed = True
    while changed:
        changed = False
        for x, y in numbers:
            least = min(numbers[(a, b)] for a in (x - 1, x, x + 1) for b in (y - 1, y, y + 1) if (a, b) in numbers)
            if least < numbers[(x, y)]:
                numbers[(x, y)] = least
                changed = True
    sizes = list(numbers.values())
    return [[2 if kind == 1 and sizes.count(numbers[(x, y)]) <= k else kind for x, kind in enumerate(row)]
            for y, row in enumerate(rows)]


class SpeckCase(CallCase):
    def assert_unspecked(self, k, rows, cleared):
        self.assert_scan_answer(unspeck(k, scan_of(rows)), cleared)

    def assert_one_piece(self, *lines):
        """All the ink drawn is one piece: it goes as a whole, and not before k is as large as it."""
        rows = drawn(*lines)
        size = sum(row.count(1) for row in rows)
        self.assert_unspecked(size - 1, rows, rows)
        cleared = [[2 if kind == 1 else kind for kind in row] for row in rows]
        self.assert_unspecked(size, rows, cleared)
        self.assert_unspecked(size + 1, rows, cleared)
        self.assert_unspecked(4096, rows, cleared)


class Pieces(SpeckCase):
    def test_k_0_changes_nothing(self):
        for rows in (drawn("#"), drawn("."), drawn("?"), drawn("#.#", "...", "?#?")):
            self.assert_unspecked(0, rows, rows)

    def test_k_1_clears_points_alone(self):
        self.assert_unspecked(1, drawn("#"), drawn("?"))
        self.assert_unspecked(1, drawn("#.##", "....", "#.#?"), drawn("?.##", "....", "?.??"))

    def test_k_and_one_more(self):
        rows = drawn("###.##.#", "........", "####....")
        self.assert_unspecked(1, rows, drawn("###.##.?", "........", "####...."))
        self.assert_unspecked(2, rows, drawn("###.??.?", "........", "####...."))
        self.assert_unspecked(3, rows, drawn("???.??.?", "........", "####...."))
        self.assert_unspecked(4, rows, drawn("???.??.?", "........", "????...."))

    def test_beside_and_above(self):
        self.assert_one_piece("##")
        self.assert_one_piece("#", "#")
        self.assert_one_piece(".##.")
        self.assert_one_piece(".", "#", "#", ".")

    def test_corner_to_corner(self):
        self.assert_one_piece("#.", ".#")
        self.assert_one_piece(".#", "#.")
        # The point in the middle touches each of the others, by a corner alone.
        self.assert_one_piece("#.#", ".#.", "#.#")
        self.assert_one_piece("#..", ".#.", "..#")
        self.assert_one_piece("..#", ".#.", "#..")

    def test_each_of_eight_directions(self):
        for x, y in product(range(3), repeat=2):
            if (x, y) != (1, 1):
                rows = drawn("...", ".#.", "...")
                rows[y][x] = 1
                self.assert_unspecked(1, rows, rows)
                self.assert_unspecked(2, rows, [[2 if kind == 1 else kind for kind in row] for row in rows])

    def test_two_steps_off_do_not_touch(self):
        for x, y in product(range(5), repeat=2):
            if max(abs(x - 2), abs(y - 2)) == 2:
                rows = [[0] * 5 for row in range(5)]
                rows[2][2] = rows[y][x] = 1
                self.assert_unspecked(1, rows, [[2 if kind == 1 else kind for kind in row] for row in rows])

    def test_by_way_of_a_third(self):
        self.assert_one_piece("###")
        self.assert_one_piece("#", "#", "#")
        self.assert_one_piece("#.#", ".#.")
        self.assert_one_piece(".#.", "#.#")
        self.assert_one_piece("#..#", "#..#", ".##.")

    def test_unclear_and_paper_do_not_join(self):
        self.assert_unspecked(1, drawn("#?#"), drawn("???"))
        self.assert_unspecked(1, drawn("#.#"), drawn("?.?"))
        self.assert_unspecked(1, drawn("#", "?", "#"), drawn("?", "?", "?"))

    def test_ring(self):
        self.assert_one_piece("###", "#.#", "###")
        self.assert_one_piece(".##.", "#..#", "#..#", ".##.")
        self.assert_one_piece(".#.", "#?#", ".#.")

    def test_piece_within_a_ring(self):
        rows = drawn("#####", "#...#", "#.#.#", "#...#", "#####")
        self.assert_unspecked(1, rows, drawn("#####", "#...#", "#.?.#", "#...#", "#####"))
        self.assert_unspecked(15, rows, drawn("#####", "#...#", "#.?.#", "#...#", "#####"))
        self.assert_unspecked(16, rows, drawn("?????", "?...?", "?.?.?", "?...?", "?????"))

    def test_arms_that_meet_below(self):
        self.assert_one_piece("#.#.#", "#.#.#", "#####")
        self.assert_one_piece("#####", "#.#.#", "#.#.#")
        self.assert_one_piece("###", "#..", "###", "..#", "###")
        self.assert_one_piece("#######", "#.....#", "#.###.#", "#.#.#.#", "#.#...#", "#.#####", "#......")

    def test_winding_line(self):
        lines = []
        for turn in range(9):
            lines.extend(["#" * 15, "." * 14 + "#" if turn % 2 == 0 else "#" + "." * 14])
        lines.append("." * 9 + "#" * 6)
        self.assertEqual("".join(lines).count("#"), 150)
        self.assert_one_piece(*lines)
        self.assert_one_piece("#" * 150)
        self.assert_one_piece(*["#"] * 150)
        self.assert_one_piece(*["#." if y % 2 == 0 else ".#" for y in range(150)])

    def test_piece_longer_than_calls_may_be_nested(self):
        self.assert_one_piece("#" * 4090)
        self.assert_one_piece(*["#"] * 4090)
        self.assert_one_piece(*["#" * 50, "." * 49 + "#", "#" * 50, "#" + "." * 49] * 38)

    def test_edges(self):
        self.assert_one_piece("##..", "....")
        self.assert_one_piece("..##", "....")
        self.assert_one_piece("....", "##..")
        self.assert_one_piece("....", "..##")
        rows = drawn("#..#", "....", "....", "#..#")
        self.assert_unspecked(1, rows, drawn("?..?", "....", "....", "?..?"))

    def test_row_ends_do_not_touch_the_next_rows(self):
        self.assert_unspecked(1, drawn("...#", "#..."), drawn("...?", "?..."))
        self.assert_unspecked(1, drawn("...#", "....", "#..."), drawn("...?", "....", "?..."))
        self.assert_unspecked(1, drawn("#..", "..#"), drawn("?..", "..?"))
        self.assert_unspecked(1, drawn("#.#"), drawn("?.?"))
        self.assert_unspecked(1, drawn("#", ".", "#"), drawn("?", ".", "?"))
        self.assert_unspecked(2, drawn("..##", "....", "##.."), drawn("..??", "....", "??.."))

    def test_first_and_last_row_do_not_touch(self):
        self.assert_unspecked(1, drawn("#..", "...", "#.."), drawn("?..", "...", "?.."))

    def test_paper_and_unclear_stay(self):
        self.assert_unspecked(4096, drawn("..??", "?..?"), drawn("..??", "?..?"))
        self.assert_unspecked(4096, drawn(".#??", "?.#?"), drawn(".???", "?.??"))

    def test_bytes_of_the_answer(self):
        self.assertEqual(unspeck(1, raw_scan(3, 2, [0, 64, 128], [2])), [0, 15] + raw_scan(3, 2, [0, 129], [2]))
        self.assertEqual(unspeck(2, raw_scan(2, 3, [64, 128], [255], [129])),
                         [0, 15] + raw_scan(2, 3, [129], [255], [255]))

    def test_most_in_a_speck(self):
        for k in (4095, 4096):
            self.assert_unspecked(k, drawn("#.#", ".#."), drawn("?.?", ".?."))
        self.assert_unspecked(4096, [[1] * 4096], [[2] * 4096])
        self.assert_unspecked(4096, [[1] * 4097], [[1] * 4097])
        self.assert_unspecked(4095, [[1] * 4096], [[1] * 4096])


class Refused(SpeckCase):
    def test_k_that_may_not_be(self):
        for k in (4097, 4098, 65536, FAR):
            self.assertEqual(unspeck(k, scan_of(drawn("#.", ".#"))), [-1])
            for rule, place, scan in SCAN_FAULTS:
                self.assertEqual(unspeck(k, scan), [-1])

    def test_faults_of_a_scan(self):
        for k in (0, 1, 4096):
            for rule, place, scan in SCAN_FAULTS:
                self.assertEqual(unspeck(k, scan), [-5, 0, rule, place])
            self.assertEqual(unspeck(k, picture_of([[1]])), [-5, 0, 1, 2])


class Promised(SpeckCase):
    def scans(self):
        random = Random(31)
        for width, height in [(1, 1), (1, 150), (150, 1), (2, 75), (10, 15), (15, 10), (12, 12)]:
            for values in ([0, 1, 2], [0, 0, 1], [0, 0, 0, 1, 2], [1, 1, 0], [1]):
                yield streaky_rows(random, width, height, values)
                yield [[random.choice(values) for x in range(width)] for y in range(height)]

    def test_specks_are_just_the_small_pieces(self):
        for rows in self.scans():
            for k in (0, 1, 2, 3, 5, 8, 20, 149, 150, 4096):
                self.assert_unspecked(k, rows, cleared_by_the_words(k, rows))

    def test_all_small_scans(self):
        for width, height in [(3, 2), (2, 3), (3, 3)]:
            for kinds in product((0, 1), repeat=width * height):
                rows = parted(list(kinds), width)
                for k in (1, 2, 3):
                    self.assert_unspecked(k, rows, cleared_by_the_words(k, rows))

    def test_cleared_once_is_cleared(self):
        for rows in self.scans():
            for k in (0, 1, 2, 3, 8, 20, 4096):
                once = unspeck(k, scan_of(rows))
                self.assertEqual(unspeck(k, once[2:]), once)
                for less in range(k):
                    if less < 5:
                        self.assertEqual(unspeck(less, once[2:]), once)

    def test_less_first_is_the_same_in_the_end(self):
        for rows in self.scans():
            fewer = unspeck(2, scan_of(rows))[2:]
            self.assertEqual(unspeck(7, fewer), unspeck(7, scan_of(rows)))

    def test_only_ink_changes(self):
        for rows in self.scans():
            before = points(scan_of(rows))[2:]
            behind = points(unspeck(4, scan_of(rows))[2:])[2:]
            for was, is_now in zip(before, behind, strict=True):
                self.assertIn((was, is_now), [(0, 0), (1, 1), (1, 2), (2, 2)])

    def test_nothing_handed_in_is_changed(self):
        for k in (0, 1, 4096, 4097):
            for scan in [scan for rule, place, scan in SCAN_FAULTS] + [scan_of(drawn("#.#", "#.#", "..."))]:
                self.assert_unchanged(unspeck, k, scan)

    def test_nothing_is_kept(self):
        rows = drawn("#.##", "....", "#.#?")
        unspeck(4096, scan_of(rows)).clear()
        unspeck(1, [])
        unspeck(4097, scan_of(rows))
        self.assert_unspecked(1, rows, drawn("?.##", "....", "?.??"))

    def test_answers_are_plain_whole_numbers(self):
        for answer in (unspeck(1, scan_of(drawn("#.", ".."))), unspeck(4097, []), unspeck(1, [])):
            self.assert_plain(answer)


if __name__ == "__main__":
    unittest.main()
