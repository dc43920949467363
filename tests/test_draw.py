"""draw: a picture written in its one form."""

import unittest
from random import Random

from inkpaper.desk import draw, greys, judge_picture
from tests.forms import parted, picture_of, raw_picture, streaky_rows

CLIMB = list(range(200))
# No three of the same stand together, but two do.
PAIRS = [grey // 2 for grey in range(200)]


class DrawCase(unittest.TestCase):
    def assert_drawn(self, width, height, shades, picture):
        self.assertEqual(draw(width, height, shades), [0, len(picture)] + picture)
        self.assertEqual(judge_picture(picture), [0, width, height])
        self.assertEqual(greys(picture), [0, width * height] + shades)

    def assert_row_drawn(self, row, *items):
        """The row is told by these items, as the only row, as the first and as a later one."""
        told = [byte for item in items for byte in item]
        width = len(row)
        self.assert_drawn(width, 1, row, raw_picture(width, 1, [0], told))
        self.assert_drawn(width, 2, row + row, raw_picture(width, 2, [0], told, [1]))
        other = [grey ^ 1 for grey in row]
        picture = draw(width, 2, other + row)[2:]
        self.assertEqual(picture[-len(told) - 1:], [0] + told)

    def assert_refused(self, width, height, shades):
        self.assertEqual(draw(width, height, shades), [-1])


class Drawn(DrawCase):
    def test_one_point_of_each_grey(self):
        for grey in range(256):
            self.assert_drawn(1, 1, [grey], raw_picture(1, 1, [0, 0, grey]))

    def test_so_many_of_the_same(self):
        for grey in (0, 6, 254, 255):
            self.assert_row_drawn([grey] * 2, [1, grey, grey])
            self.assert_row_drawn([grey] * 3, [128, grey])
            self.assert_row_drawn([grey] * 4, [129, grey])
            self.assert_row_drawn([grey] * 129, [254, grey])
            self.assert_row_drawn([grey] * 130, [255, grey])
            self.assert_row_drawn([grey] * 131, [255, grey], [0, grey])
            self.assert_row_drawn([grey] * 132, [255, grey], [1, grey, grey])
            self.assert_row_drawn([grey] * 133, [255, grey], [128, grey])
            self.assert_row_drawn([grey] * 134, [255, grey], [129, grey])
            self.assert_row_drawn([grey] * 260, [255, grey], [255, grey])

    def test_what_is_left_of_the_same_goes_with_the_greys_behind(self):
        self.assert_row_drawn([6] * 131 + [7, 8], [255, 6], [2, 6, 7, 8])
        self.assert_row_drawn([6] * 132 + [7, 7, 7], [255, 6], [1, 6, 6], [128, 7])
        self.assert_row_drawn([6] * 133 + [7], [255, 6], [128, 6], [0, 7])

    def test_so_many_plain_greys(self):
        for row in (CLIMB, PAIRS):
            self.assert_row_drawn(row[:1], [0, *row[:1]])
            self.assert_row_drawn(row[:127], [126, *row[:127]])
            self.assert_row_drawn(row[:128], [127, *row[:128]])
            self.assert_row_drawn(row[:129], [127, *row[:128]], [0, row[128]])
            self.assert_row_drawn(row[:130], [127, *row[:128]], [1, row[128], row[129]])

    def test_three_of_the_same_behind_plain_greys(self):
        for row in (CLIMB, PAIRS):
            for before in (1, 2, 126, 127, 128):
                plain = row[:before]
                self.assert_row_drawn(plain + [250] * 3, [before - 1, *plain], [128, 250])
                self.assert_row_drawn(plain + [250] * 2, *self.plain_items(plain + [250] * 2))
                self.assert_row_drawn(plain + [250] * 3 + [9], [before - 1, *plain], [128, 250], [0, 9])
            for before in (129, 130):
                plain = row[:before]
                behind = [before - 129, *plain[128:]]
                self.assert_row_drawn(plain + [250] * 3, [127, *plain[:128]], behind, [128, 250])

    def plain_items(self, row):
        return [[len(part) - 1, *part] for part in parted(row, 128)]

    def test_several_streaks(self):
        self.assert_row_drawn([1, 1, 1, 2, 2, 2, 2], [128, 1], [129, 2])
        self.assert_row_drawn([1, 1, 1, 2, 2, 3, 4, 4, 4, 4], [128, 1], [2, 2, 2, 3], [129, 4])
        self.assert_row_drawn([5, 5, 6, 6, 5, 5], [5, 5, 5, 6, 6, 5, 5])

    def test_rows_as_the_one_above(self):
        self.assert_drawn(1, 4, [7, 7, 8, 8], raw_picture(1, 4, [0, 0, 7], [1], [0, 0, 8], [1]))
        self.assert_drawn(2, 3, [1, 2, 2, 1, 1, 2], raw_picture(2, 3, [0, 1, 1, 2], [0, 1, 2, 1], [0, 1, 1, 2]))
        self.assert_drawn(20, 20, [3] * 400, raw_picture(20, 20, [0, 145, 3], [1] * 19))

    def test_streak_does_not_go_on_in_the_next_row(self):
        self.assert_drawn(2, 2, [1, 2, 2, 2], raw_picture(2, 2, [0, 1, 1, 2], [0, 1, 2, 2]))

    def test_size_is_told_lowest_byte_first(self):
        self.assert_drawn(300, 1, [3] * 300, raw_picture(300, 1, [0, 255, 3, 255, 3, 165, 3]))
        self.assert_drawn(1, 300, [3] * 300, raw_picture(1, 300, [0, 0, 3], [1] * 299))
        self.assertEqual(draw(1, 300, [3] * 300)[2:14], [83, 72, 71, 49, 1, 0, 0, 0, 44, 1, 0, 0])

    def test_longest_sides(self):
        self.assert_drawn(8192, 1, [4] * 8192, picture_of([[4] * 8192]))
        self.assert_drawn(1, 8192, [4] * 8192, picture_of([[4]] * 8192))


class Refused(DrawCase):
    def test_side_of_none(self):
        for width, height in [(0, 0), (0, 1), (1, 0), (0, 4294967295), (4294967295, 0)]:
            self.assert_refused(width, height, [])
            self.assert_refused(width, height, [7])
        self.assertEqual(draw(1, 1, [7])[0], 0)

    def test_side_too_long(self):
        for long in (8193, 8194, 10000):
            self.assert_refused(long, 1, [7] * long)
            self.assert_refused(1, long, [7] * long)
        self.assertEqual(draw(8192, 1, [7] * 8192)[0], 0)

    def test_far_too_large(self):
        for width, height in [(8192, 2048), (8192, 2049), (8192, 8192), (65536, 65536), (4294967295, 4294967295),
                              (4294967295, 1), (1, 4294967295)]:
            for shades in ([], [7], [7] * 1000):
                self.assert_refused(width, height, shades)

    def test_other_number_of_greys(self):
        for width, height in [(1, 1), (2, 3), (3, 2), (20, 20), (400, 1), (1, 400)]:
            due = width * height
            for length in (0, due - 1, due + 1, 2 * due, due + width, due - width, due + height, due - height, 1000):
                self.assert_refused(width, height, [7] * length)
            self.assertEqual(draw(width, height, [7] * due)[0], 0)


class Promised(DrawCase):
    def test_what_is_drawn_is_read_as_the_same(self):
        random = Random(5)
        for width, height in [(1, 1), (1, 9), (9, 1), (5, 7), (20, 20), (131, 3), (200, 2), (400, 1)]:
            for values in ([0, 255], [1, 2, 3], list(range(256))):
                rows = streaky_rows(random, width, height, values)
                self.assert_drawn(width, height, sum(rows, []), picture_of(rows))

    def test_what_is_read_is_drawn_as_the_same_bytes(self):
        random = Random(6)
        accepted = 0
        for step in range(1500):
            picture = picture_of(streaky_rows(random, random.randrange(1, 9), random.randrange(1, 5), [0, 1, 128]))
            if step % 3:
                picture[random.randrange(12, len(picture))] = random.choice([0, 1, 2, 3, 127, 128, 129, 255])
            size = judge_picture(picture)
            if size[0] == 0:
                accepted += 1
                self.assertEqual(draw(size[1], size[2], greys(picture)[2:]), [0, len(picture)] + picture)
        self.assertGreater(accepted, 500)

    def test_nothing_handed_in_is_changed(self):
        for width, height, shades in [(3, 2, [1] * 6), (3, 1, [1, 2, 3]), (3, 3, [1, 2]), (0, 0, []), (1, 1, [1, 1])]:
            before = list(shades)
            draw(width, height, shades)
            self.assertEqual(shades, before)

    def test_nothing_is_kept(self):
        first = draw(3, 2, [1] * 6)
        first.clear()
        draw(3, 2, [1])
        self.assert_drawn(3, 2, [1] * 6, raw_picture(3, 2, [0, 128, 1], [1]))

    def test_answers_are_plain_whole_numbers(self):
        for answer in (draw(0, 0, []), draw(2, 2, [1, 0, 1, 0])):
            self.assertIs(type(answer), list)
            self.assertEqual({type(entry) for entry in answer}, {int})


if __name__ == "__main__":
    unittest.main()
