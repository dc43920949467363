"""judge_picture and greys: pictures in their one form."""

import unittest
from itertools import product
from random import Random

from inkpaper.desk import greys, judge_picture
from tests.forms import picture_of, raw_picture, streaky_rows

CLIMB = list(range(200))


class PictureCase(unittest.TestCase):
    def assert_picture(self, width, height, told, picture):
        self.assertEqual(judge_picture(picture), [0, width, height])
        self.assertEqual(greys(picture), [0, width * height] + told)

    def assert_refused(self, rule, place, picture):
        self.assertEqual(judge_picture(picture), [-5, 0, rule, place])
        self.assertEqual(greys(picture), [-5, 0, rule, place])

    def assert_refused_for_good(self, rule, place, picture):
        """The fault is told, and it stays whatever bytes follow."""
        self.assert_refused(rule, place, picture)
        for tail in ([0], [1], [127], [128], [255], [0] * 20, [1] * 20, [0, 0, 7, 1, 1], list(range(256))):
            self.assert_refused(rule, place, picture + tail)


class Accepted(PictureCase):
    def test_one_point(self):
        self.assert_picture(1, 1, [7], raw_picture(1, 1, [0, 0, 7]))

    def test_black_and_white(self):
        self.assert_picture(2, 1, [0, 255], raw_picture(2, 1, [0, 1, 0, 255]))

    def test_many_rows(self):
        picture = raw_picture(4, 5, [0, 3, 1, 2, 3, 4], [1], [0, 129, 9], [1], [0, 0, 8, 128, 9])
        told = [1, 2, 3, 4] * 2 + [9, 9, 9, 9] * 2 + [8, 9, 9, 9]
        self.assert_picture(4, 5, told, picture)

    def test_row_as_one_further_up_is_told_anew(self):
        picture = raw_picture(2, 3, [0, 1, 1, 2], [0, 1, 2, 1], [0, 1, 1, 2])
        self.assert_picture(2, 3, [1, 2, 2, 1, 1, 2], picture)

    def test_two_of_the_same_are_plain_greys(self):
        self.assert_picture(2, 1, [5, 5], raw_picture(2, 1, [0, 1, 5, 5]))
        self.assert_picture(6, 1, [5, 5, 6, 6, 5, 5], raw_picture(6, 1, [0, 5, 5, 5, 6, 6, 5, 5]))

    def test_same_before_plain_before_same(self):
        told = [1, 1, 1, 2, 2, 3, 4, 4, 4, 4]
        self.assert_picture(10, 1, told, raw_picture(10, 1, [0, 128, 1, 2, 2, 2, 3, 129, 4]))

    def test_two_streaks_beside_one_another(self):
        self.assert_picture(7, 1, [1, 1, 1, 2, 2, 2, 2], raw_picture(7, 1, [0, 128, 1, 129, 2]))

    def test_least_and_most_of_the_same(self):
        self.assert_picture(3, 1, [6] * 3, raw_picture(3, 1, [0, 128, 6]))
        self.assert_picture(130, 1, [6] * 130, raw_picture(130, 1, [0, 255, 6]))

    def test_more_of_the_same_than_one_item_tells(self):
        self.assert_picture(131, 1, [6] * 131, raw_picture(131, 1, [0, 255, 6, 0, 6]))
        self.assert_picture(132, 1, [6] * 132, raw_picture(132, 1, [0, 255, 6, 1, 6, 6]))
        self.assert_picture(133, 1, [6] * 133, raw_picture(133, 1, [0, 255, 6, 128, 6]))
        self.assert_picture(390, 1, [6] * 390, raw_picture(390, 1, [0, 255, 6, 255, 6, 255, 6]))
        # What is left of the streak goes with the greys behind it.
        self.assert_picture(133, 1, [6] * 131 + [7, 8], raw_picture(133, 1, [0, 255, 6, 2, 6, 7, 8]))

    def test_least_and_most_plain_greys(self):
        self.assert_picture(1, 1, [0], raw_picture(1, 1, [0, 0, 0]))
        self.assert_picture(128, 1, CLIMB[:128], raw_picture(128, 1, [0, 127], CLIMB[:128]))

    def test_more_plain_greys_than_one_item_tells(self):
        self.assert_picture(129, 1, CLIMB[:129], raw_picture(129, 1, [0, 127], CLIMB[:128], [0, 128]))
        self.assert_picture(200, 1, CLIMB, raw_picture(200, 1, [0, 127], CLIMB[:128], [71], CLIMB[128:]))

    def test_streak_where_128_greys_end(self):
        for before in (126, 127, 128, 129, 130):
            plain = CLIMB[:before]
            items = [before - 1] + plain if before <= 128 else [127] + plain[:128] + [before - 129] + plain[128:]
            told = plain + [255] * 3
            self.assert_picture(before + 3, 1, told, raw_picture(before + 3, 1, [0], items, [128, 255]))

    def test_size_uses_all_bytes_lowest_first(self):
        self.assert_picture(300, 1, [3] * 300, raw_picture(300, 1, [0, 255, 3, 255, 3, 165, 3]))
        self.assert_picture(1, 300, [3] * 300, raw_picture(1, 300, [0, 0, 3], [1] * 299))

    def test_longest_sides(self):
        self.assertEqual(judge_picture(picture_of([[4] * 8192])), [0, 8192, 1])
        self.assertEqual(judge_picture(picture_of([[4]] * 8192)), [0, 1, 8192])

    def test_most_points(self):
        self.assertEqual(judge_picture(picture_of([[4] * 8192] * 2048)), [0, 8192, 2048])

    def test_pictures_of_all_sorts(self):
        random = Random(1)
        for width, height in [(1, 1), (1, 9), (9, 1), (5, 7), (20, 20), (131, 3), (200, 2), (400, 1)]:
            for values in ([0, 255], list(range(256))):
                rows = streaky_rows(random, width, height, values)
                self.assert_picture(width, height, sum(rows, []), picture_of(rows))


class Refused(PictureCase):
    def test_no_bytes(self):
        self.assert_refused(5, 0, [])

    def test_mark_breaks_off(self):
        for length in range(1, 4):
            self.assert_refused(5, length, [83, 72, 71, 49][:length])

    def test_mark_wrong(self):
        whole = raw_picture(1, 1, [0, 0, 7])
        for place in range(4):
            for byte in set(range(256)) - {whole[place]}:
                self.assert_refused(1, place, whole[:place] + [byte] + whole[place + 1:])
            self.assert_refused_for_good(1, place, whole[:place] + [0])

    def test_scan_is_no_picture(self):
        self.assert_refused(1, 2, [83, 72, 84, 49, 1, 0, 0, 0, 1, 0, 0, 0, 0])

    def test_width_and_height_break_off(self):
        whole = raw_picture(1, 1)
        for length in range(4, 13):
            self.assert_refused(5, length, whole[:length])
        # Three bytes don't yet tell a width or a height, whatever they are.
        self.assert_refused(5, 7, whole[:4] + [255, 255, 255])
        self.assert_refused(5, 11, whole[:8] + [255, 255, 255])
        self.assert_refused(5, 7, whole[:4] + [0, 0, 0])
        self.assert_refused(5, 11, whole[:8] + [0, 0, 0])

    def test_width_may_not_be(self):
        for width in (0, 8193, 65537, 2 ** 24, 2 ** 24 + 1, 2 ** 31, 2 ** 32 - 1):
            self.assert_refused_for_good(2, 4, raw_picture(width, 0)[:8])
            self.assert_refused(2, 4, raw_picture(width, 0, [0, 0, 7]))
            self.assert_refused(2, 4, raw_picture(width, 1, [0, 0, 7]))

    def test_height_may_not_be(self):
        for height in (0, 8193, 65537, 2 ** 24, 2 ** 24 + 1, 2 ** 31, 2 ** 32 - 1):
            self.assert_refused_for_good(2, 8, raw_picture(1, height))

    def test_too_many_points(self):
        for width, height in [(8192, 2049), (2049, 8192), (8192, 8192), (4097, 4096)]:
            self.assert_refused_for_good(2, 8, raw_picture(width, height))
        for width, height in [(8192, 2048), (2048, 8192), (4096, 4096)]:
            self.assert_refused(5, 12, raw_picture(width, height))

    def test_row_begins_wrong(self):
        self.assert_refused_for_good(3, 12, raw_picture(1, 2, [1]))
        for first in range(2, 256):
            self.assert_refused(3, 12, raw_picture(1, 2, [first, 0, 7]))
            self.assert_refused(3, 15, raw_picture(1, 2, [0, 0, 7], [first, 0, 8]))
        self.assert_refused_for_good(3, 12, raw_picture(1, 2, [2]))
        self.assert_refused_for_good(3, 15, raw_picture(1, 2, [0, 0, 7], [2]))
        self.assert_refused_for_good(3, 16, raw_picture(1, 3, [0, 0, 7], [1], [255]))

    def test_item_tells_too_many(self):
        for width in (1, 2, 127):
            for first in range(width, 128):
                self.assert_refused(4, 13, raw_picture(width, 1, [0, first]))
        for width in (1, 2, 3, 129):
            for first in range(max(128, width + 126), 256):
                self.assert_refused(4, 13, raw_picture(width, 1, [0, first]))
        self.assert_refused_for_good(4, 13, raw_picture(1, 1, [0, 1]))
        self.assert_refused_for_good(4, 13, raw_picture(2, 1, [0, 128]))
        self.assert_refused_for_good(4, 13, raw_picture(3, 1, [0, 129]))

    def test_later_item_tells_too_many(self):
        self.assert_refused_for_good(4, 15, raw_picture(5, 1, [0, 128, 6, 2]))
        self.assert_refused_for_good(4, 15, raw_picture(5, 1, [0, 128, 6, 128]))
        self.assert_refused_for_good(4, 20, raw_picture(3, 2, [0, 2, 5, 6, 7], [0, 0, 1, 2]))

    def test_every_beginning_ends_early(self):
        for rows in ([[7]], [[1, 2, 3, 4], [1, 2, 3, 4], [9, 9, 9, 8], [9, 9, 9, 8]],
                     [[6] * 131 + CLIMB], [CLIMB, CLIMB, CLIMB[::-1]]):
            whole = picture_of(rows)
            for length in range(len(whole)):
                self.assert_refused(5, length, whole[:length])

    def test_bytes_behind(self):
        for rows in ([[7]], [[7, 7], [7, 7]], [[1, 2, 3], [3, 2, 1]], [[6] * 131]):
            whole = picture_of(rows)
            for tail in ([0], [1], [255], [0, 0, 7], whole):
                self.assert_refused(7, len(whole), whole + tail)

    def test_row_told_otherwise(self):
        for width, items in [
            (2, [0, 5, 0, 5]),                      # plain greys in two items
            (2, [0, 5, 0, 6]),
            (3, [2, 5, 5, 5]),                      # a streak as plain greys
            (4, [0, 5, 128, 5]),                    # a streak that begins earlier than told
            (4, [128, 5, 0, 5]),                    # a streak that goes on
            (5, [4, 1, 2, 2, 2, 3]),                # a streak within plain greys
            (5, [3, 1, 2, 2, 2, 0, 3]),
            (5, [1, 1, 2, 0, 2, 1, 2, 3]),
            (6, [128, 5, 128, 5]),
            (131, [254, 6, 1, 6, 6]),               # not the most of the same first
            (133, [252, 6, 131, 6]),
            (128, [0, 0, 126] + CLIMB[1:128]),      # not the most plain greys first
            (129, [126] + CLIMB[:127] + [1] + CLIMB[127:129]),
        ]:
            self.assert_refused_for_good(6, 12, raw_picture(width, 1, [0], items))

    def test_row_as_above_told_anew(self):
        self.assert_refused_for_good(6, 15, raw_picture(1, 2, [0, 0, 7], [0, 0, 7]))
        self.assert_refused_for_good(6, 16, raw_picture(1, 3, [0, 0, 7], [1], [0, 0, 7]))
        self.assert_refused_for_good(6, 15, raw_picture(3, 2, [0, 128, 7], [0, 128, 7]))
        self.assert_refused_for_good(6, 16, raw_picture(2, 2, [0, 1, 7, 8], [0, 0, 7, 0, 8]))

    def test_row_told_otherwise_is_told_behind_the_row(self):
        otherwise = raw_picture(4, 1, [0, 0, 5, 0, 5])
        self.assert_refused(5, 17, otherwise)
        self.assert_refused(5, 18, otherwise + [1])
        self.assert_refused(5, 19, otherwise + [1, 8])
        self.assert_refused_for_good(6, 12, otherwise + [1, 8, 9])
        self.assert_refused_for_good(4, 17, otherwise + [2])
        self.assert_refused_for_good(4, 17, otherwise + [128])

    def test_first_of_two_faults(self):
        self.assert_refused(1, 1, [83, 0, 0, 49] + raw_picture(0, 0)[4:])
        self.assert_refused(1, 3, [83, 72, 71, 0])
        self.assert_refused(2, 4, raw_picture(0, 0, [2]))
        self.assert_refused(2, 8, raw_picture(1, 0, [2]))
        self.assert_refused(3, 12, raw_picture(2, 2, [1, 9], [2]))
        self.assert_refused(4, 13, raw_picture(2, 2, [0, 2, 7, 7, 7], [2]))
        self.assert_refused(6, 12, raw_picture(2, 2, [0, 0, 7, 0, 7], [2]))
        self.assert_refused(6, 12, raw_picture(2, 2, [0, 0, 7, 0, 7], [0, 2]))
        self.assert_refused(6, 12, raw_picture(2, 2, [0, 0, 7, 0, 7]))
        self.assert_refused(6, 12, raw_picture(2, 2, [0, 0, 7, 0, 7], [0, 0, 7, 0, 7]))
        self.assert_refused(6, 12, raw_picture(2, 1, [0, 0, 7, 0, 7], [9]))
        self.assert_refused(3, 16, raw_picture(2, 3, [0, 1, 7, 7], [2], [2]))


class Promised(PictureCase):
    def test_one_form_each(self):
        """Of all bytes that could tell a picture just one row of them does."""
        bodies = [body for length in range(8) for body in product([0, 1, 2, 128], repeat=length)]
        for width, height, different in [(1, 1, 4), (2, 1, 16), (3, 1, 64), (1, 2, 16)]:
            seen = []
            for body in bodies:
                answer = greys(raw_picture(width, height, body))
                if answer[0] == 0:
                    seen.append(tuple(answer))
            self.assertEqual(len(seen), different)
            self.assertEqual(len(set(seen)), different)

    def test_what_is_read_is_written_as_the_same_bytes(self):
        random = Random(2)
        for turn in range(400):
            whole = picture_of(streaky_rows(random, random.randrange(1, 12), random.randrange(1, 6), [0, 1, 128]))
            for change in range(3):
                changed = list(whole)
                changed[random.randrange(12, len(whole))] = random.choice([0, 1, 2, 3, 127, 128, 129, 255])
                self.check_any(changed)

    def check_any(self, picture):
        answer = judge_picture(picture)
        told = greys(picture)
        if answer[0] == 0:
            width = answer[1]
            rows = [told[start:start + width] for start in range(2, len(told), width)]
            self.assertEqual(picture_of(rows), picture)
        elif answer[2] not in (5, 7):
            self.assertEqual(told, answer)
            self.assert_refused(answer[2], answer[3], picture + [0])
            self.assert_refused(answer[2], answer[3], picture + [1, 255, 3])

    def test_nothing_handed_in_is_changed(self):
        for picture in ([], picture_of([[1, 1, 1], [1, 1, 1]]), raw_picture(2, 1, [0, 0, 7, 0, 7]), [1, 2, 3]):
            before = list(picture)
            judge_picture(picture)
            greys(picture)
            self.assertEqual(picture, before)

    def test_nothing_is_kept(self):
        picture = picture_of([[1, 1, 1], [1, 1, 1], [2, 3, 4]])
        first = greys(picture)
        first.clear()
        judge_picture(raw_picture(2, 1, [0, 0, 7, 0, 7]))
        self.assert_picture(3, 3, [1, 1, 1, 1, 1, 1, 2, 3, 4], picture)

    def test_answers_are_plain_whole_numbers(self):
        for answer in (greys(picture_of([[1, 0], [1, 0]])), judge_picture([]), judge_picture(picture_of([[1]]))):
            self.assertIs(type(answer), list)
            self.assertEqual({type(entry) for entry in answer}, {int})


if __name__ == "__main__":
    unittest.main()
