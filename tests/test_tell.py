"""tell: points told by their windows."""

import unittest
from random import Random

from inkpaper.desk import judge_scan, points, tell
from tests.forms import PICTURE_FAULTS, picture_of, scan_of, streaky_rows

PAPER, INK, UNCLEAR = 0, 1, 2
FAR = 4294967295


def window_places(width, height, x, y, r):
    return [(column, row) for row in range(height) for column in range(width)
            if abs(column - x) <= r and abs(row - y) <= r]


def told_by_the_words(r, dark, light, below, near, rows):
    """The kinds by the document's words, each window gone through whole."""
    width, height = len(rows[0]), len(rows)

    def kind(x, y):
        places = window_places(width, height, x, y, r)
        g, n, s = rows[y][x], len(places), sum(rows[row][column] for column, row in places)
        if g <= dark:
            return INK
        if g >= light:
            return PAPER
        if n * (g + below) <= s:
            return INK
        if s <= n * (g + near):
            return PAPER
        return UNCLEAR

    return [[kind(x, y) for x in range(width)] for y in range(height)]


class TellCase(unittest.TestCase):
    def assert_told(self, rule, rows, kinds):
        scan = scan_of(kinds)
        self.assertEqual(tell(*rule, picture_of(rows)), [0, len(scan)] + scan)
        self.assertEqual(judge_scan(scan), [0, len(rows[0]), len(rows)])

    def kinds_told(self, rule, rows):
        answer = tell(*rule, picture_of(rows))
        self.assertEqual(answer[0], 0)
        scan = answer[2:]
        self.assertEqual(answer[1], len(scan))
        self.assertEqual(judge_scan(scan), [0, len(rows[0]), len(rows)])
        return points(scan)[2:]

    def kind_told(self, rule, rows, x, y):
        return self.kinds_told(rule, rows)[y * len(rows[0]) + x]


class OrdinaryAnswers(TellCase):
    def test_a_stroke_on_a_page(self):
        rows = [[180, 150, 190, 60, 180]] * 4
        self.assert_told((1, 40, 220, 40, 10), rows, [[0, 2, 0, 1, 0]] * 4)

    def test_one_point(self):
        self.assert_told((1, 100, 150, 20, 10), [[100]], [[INK]])
        self.assert_told((1, 100, 150, 20, 10), [[101]], [[PAPER]])
        self.assert_told((1, 100, 150, 20, 10), [[150]], [[PAPER]])
        self.assert_told((1, 100, 150, 0, 0), [[101]], [[INK]])

    def test_bytes_of_the_answer(self):
        self.assertEqual(tell(0, 9, 10, 5, 5, picture_of([[9, 10, 10], [9, 10, 10]])),
                         [0, 15, 83, 72, 84, 49, 3, 0, 0, 0, 2, 0, 0, 0, 64, 1, 255])

    def test_row_of_greys_as_above_may_be_told_otherwise(self):
        rows = [[255], [100], [100], [0]]
        self.assert_told((1, 10, 250, 50, 0), rows, [[0], [1], [0], [1]])

    def test_against_the_words(self):
        random = Random(9)
        for width, height in [(1, 1), (1, 9), (9, 1), (5, 7), (7, 5), (20, 20), (131, 3), (3, 100), (400, 1), (1, 400)]:
            for r in (0, 1, 2, 8):
                rows = streaky_rows(random, width, height, random.sample(range(256), 20))
                dark, light = sorted(random.sample(range(256), 2))
                near, below = sorted([random.randrange(60), random.randrange(60)])
                rule = (r, dark // 2, max(light, 200), below, near)
                self.assert_told(rule, rows, told_by_the_words(*rule, rows))

    def test_largest_rule(self):
        rows = [[0, 254, 255, 100]] * 2
        self.assert_told((64, 254, 255, 255, 255), rows, [[1, 1, 0, 1]] * 2)
        self.assert_told((64, 0, 255, 255, 0), rows, told_by_the_words(64, 0, 255, 255, 0, rows))
        self.assert_told((64, 0, 1, 0, 0), rows, [[1, 0, 0, 0]] * 2)
        row = list(range(1, 131)) * 3
        for r in (62, 63, 64):
            self.assert_told((r, 0, 255, 9, 3), [row], told_by_the_words(r, 0, 255, 9, 3, [row]))


class Borders(TellCase):
    """Each case at its border and one beside it, with a window of a set sum in the middle, at edges, in corners."""

    SIZES = [
        (3, 3, 0), (5, 5, 1), (7, 4, 1), (20, 20, 8), (20, 9, 8), (3, 2, 8), (4, 4, 3), (1, 5, 1), (5, 1, 1), (2, 2, 64),
    ]

    def places(self):
        for width, height, r in self.SIZES:
            for x in sorted({0, 1, width // 2, width - 1} & set(range(width))):
                for y in sorted({0, 1, height // 2, height - 1} & set(range(height))):
                    yield width, height, r, x, y

    def rows_with(self, place, grey, total):
        """Rows with that grey at the place, and that sum of its window; what is outside is black and white in turns."""
        width, height, r, x, y = place
        rows = [[255 * ((column + row) % 2) for column in range(width)] for row in range(height)]
        inside = [spot for spot in window_places(width, height, x, y, r) if spot != (x, y)]
        rows[y][x] = grey
        rest = total - grey
        for index, (column, row) in enumerate(inside):
            rows[row][column] = rest // (len(inside) - index)
            rest -= rows[row][column]
        self.assertEqual(rest, 0)
        self.assertTrue(all(0 <= entry <= 255 for line in rows for entry in line))
        return rows

    def window_size(self, place):
        width, height, r, x, y = place
        return len(window_places(width, height, x, y, r))

    def assert_kind(self, kind, rule, place, grey, total):
        width, height, r, x, y = place
        self.assertEqual(self.kind_told((r,) + rule, self.rows_with(place, grey, total), x, y), kind, place)

    def test_dark(self):
        for place in self.places():
            n = self.window_size(place)
            # Behind the first case the fourth would say paper.
            self.assert_kind(INK, (50, 200, 10, 5), place, 49, n * 49)
            self.assert_kind(INK, (50, 200, 10, 5), place, 50, n * 50)
            self.assert_kind(PAPER, (50, 200, 10, 5), place, 51, n * 51)

    def test_light(self):
        for place in self.places():
            n = self.window_size(place)
            if n > 1:
                # Behind the second case the third would say ink.
                total = n * 210 if n > 2 else 199 + 255
                self.assert_kind(PAPER, (50, 200, 5, 5), place, 201, total)
                self.assert_kind(PAPER, (50, 200, 5, 5), place, 200, total)
                self.assert_kind(INK, (50, 200, 5, 5), place, 199, total)

    def test_below(self):
        for place in self.places():
            n = self.window_size(place)
            if n > 1:
                self.assert_kind(INK, (0, 255, 10, 5), place, 100, n * 110 + 1)
                self.assert_kind(INK, (0, 255, 10, 5), place, 100, n * 110)
                self.assert_kind(UNCLEAR, (0, 255, 10, 5), place, 100, n * 110 - 1)

    def test_near(self):
        for place in self.places():
            n = self.window_size(place)
            if n > 1:
                self.assert_kind(PAPER, (0, 255, 10, 5), place, 100, n * 105 - 1)
                self.assert_kind(PAPER, (0, 255, 10, 5), place, 100, n * 105)
                self.assert_kind(UNCLEAR, (0, 255, 10, 5), place, 100, n * 105 + 1)

    def test_near_equal_to_below(self):
        for place in self.places():
            n = self.window_size(place)
            if n > 1:
                self.assert_kind(INK, (0, 255, 10, 10), place, 100, n * 110)
                self.assert_kind(PAPER, (0, 255, 10, 10), place, 100, n * 110 - 1)
                self.assert_kind(INK, (0, 255, 0, 0), place, 100, n * 100)
                self.assert_kind(PAPER, (0, 255, 0, 0), place, 100, n * 100 - 1)

    def test_lighter_than_the_mean_is_paper(self):
        for place in self.places():
            n = self.window_size(place)
            self.assert_kind(PAPER, (0, 255, 10, 5), place, 100, 100)
            self.assert_kind(PAPER, (0, 255, 10, 0), place, 100, n * 100)

    def test_radius_0_is_never_unclear(self):
        for grey in range(11, 200):
            self.assertEqual(self.kinds_told((0, 10, 200, 1, 0), [[0, grey, 255]]), [INK, PAPER, PAPER])
            self.assertEqual(self.kinds_told((0, 10, 200, 0, 0), [[0, grey, 255]]), [INK, INK, PAPER])


class Refused(TellCase):
    WRONG_RULES = [
        (65, 10, 20, 5, 5), (66, 10, 20, 5, 5), (FAR, 10, 20, 5, 5),
        (1, 256, 257, 5, 5), (1, 256, 20, 5, 5), (1, FAR, 20, 5, 5), (1, FAR, FAR, 5, 5),
        (1, 10, 256, 5, 5), (1, 255, 256, 5, 5), (1, 10, FAR, 5, 5),
        (1, 10, 20, 256, 5), (1, 10, 20, 256, 256), (1, 10, 20, FAR, 5),
        (1, 10, 20, 255, 256), (1, 10, 20, 5, 256), (1, 10, 20, FAR, FAR), (1, 10, 20, 5, FAR),
        (1, 10, 10, 5, 5), (1, 11, 10, 5, 5), (1, 0, 0, 5, 5), (1, 255, 255, 5, 5), (1, 255, 0, 5, 5),
        (1, 10, 20, 5, 6), (1, 10, 20, 0, 1), (1, 10, 20, 254, 255), (1, 10, 20, 0, 255),
    ]
    BORDER_RULES = [
        (64, 10, 20, 5, 5), (0, 10, 20, 5, 5), (1, 254, 255, 5, 5), (1, 0, 1, 5, 5), (1, 9, 10, 5, 5),
        (1, 10, 20, 255, 255), (1, 10, 20, 0, 0), (1, 10, 20, 255, 0), (1, 10, 20, 6, 5),
    ]

    def test_rule_that_is_not_so(self):
        for rule in self.WRONG_RULES:
            self.assertEqual(tell(*rule, picture_of([[1, 2, 3], [4, 5, 6]])), [-1], rule)

    def test_rule_at_its_borders(self):
        for rule in self.BORDER_RULES:
            rows = [[1, 20, 13], [14, 255, 0]]
            self.assert_told(rule, rows, told_by_the_words(*rule, rows))

    def test_faults_of_a_picture(self):
        for rule, place, picture in PICTURE_FAULTS:
            self.assertEqual(tell(1, 10, 20, 5, 5, picture), [-5, 0, rule, place])
            self.assertEqual(tell(64, 254, 255, 255, 255, picture), [-5, 0, rule, place])

    def test_rule_goes_before_faults(self):
        for rule in self.WRONG_RULES:
            for number, place, picture in PICTURE_FAULTS:
                self.assertEqual(tell(*rule, picture), [-1])

    def test_scan_is_no_picture(self):
        self.assertEqual(tell(1, 10, 20, 5, 5, scan_of([[1]])), [-5, 0, 1, 2])


class Promised(TellCase):
    def test_points_are_told_by_their_windows_alone(self):
        random = Random(10)
        for step in range(60):
            width, height, r = random.randrange(1, 9), random.randrange(1, 9), random.randrange(4)
            rows = [[random.randrange(256) for column in range(width)] for row in range(height)]
            x, y = random.randrange(width), random.randrange(height)
            changed = [[random.randrange(256) for column in range(width)] for row in range(height)]
            for column, row in window_places(width, height, x, y, r):
                changed[row][column] = rows[row][column]
            rule = (r, 20, 240, 30, 10)
            self.assertEqual(self.kind_told(rule, rows, x, y), self.kind_told(rule, changed, x, y))

    def test_point_made_darker_stays_ink(self):
        random = Random(11)
        stayed = 0
        for step in range(60):
            width, height, r = random.randrange(1, 6), random.randrange(1, 6), random.randrange(4)
            rows = [[random.randrange(256) for column in range(width)] for row in range(height)]
            near, below = sorted([random.randrange(40), random.randrange(40)])
            rule = (r, random.randrange(30), random.randrange(200, 256), below, near)
            kinds = self.kinds_told(rule, rows)
            for place in [place for place, kind in enumerate(kinds) if kind == INK]:
                x, y = place % width, place // width
                for darker in sorted({0, rows[y][x] // 2, max(rows[y][x] - 1, 0)}):
                    changed = [list(row) for row in rows]
                    changed[y][x] = darker
                    self.assertEqual(self.kind_told(rule, changed, x, y), INK)
                    stayed += 1
        self.assertGreater(stayed, 100)

    def test_picture_of_one_grey_is_of_one_kind(self):
        for width, height in [(1, 1), (4, 3), (20, 20), (400, 1)]:
            for r in (0, 1, 8):
                for below, near, between in [(20, 10, PAPER), (1, 0, PAPER), (10, 10, PAPER), (0, 0, INK)]:
                    for grey in (0, 99, 100, 101, 149, 150, 255):
                        kind = INK if grey <= 100 else PAPER if grey >= 150 else between
                        rows = [[grey] * width] * height
                        self.assert_told((r, 100, 150, below, near), rows, [[kind] * width] * height)

    def test_nothing_handed_in_is_changed(self):
        for picture in ([picture for number, place, picture in PICTURE_FAULTS] + [picture_of([[9, 9, 9], [9, 9, 9]])]):
            for rule in [(1, 10, 20, 5, 5), (65, 10, 20, 5, 5)]:
                before = list(picture)
                tell(*rule, picture)
                self.assertEqual(picture, before)

    def test_nothing_is_kept(self):
        rows = [[180, 150, 190, 60, 180]] * 4
        tell(1, 40, 220, 40, 10, picture_of(rows)).clear()
        tell(2, 40, 220, 0, 0, picture_of([[1, 2, 3]]))
        tell(65, 40, 220, 0, 0, [])
        self.assert_told((1, 40, 220, 40, 10), rows, [[0, 2, 0, 1, 0]] * 4)

    def test_answers_are_plain_whole_numbers(self):
        whole = picture_of([[1, 0, 100], [1, 0, 100]])
        for answer in (tell(1, 10, 20, 5, 5, whole), tell(65, 10, 20, 5, 5, whole), tell(1, 10, 20, 5, 5, [])):
            self.assertIs(type(answer), list)
            self.assertEqual({type(entry) for entry in answer}, {int})


if __name__ == "__main__":
    unittest.main()
