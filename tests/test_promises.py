"""The promises 1 to 5 and the interface, over all the calls at once."""

import inspect
import io
import unittest
from contextlib import redirect_stderr, redirect_stdout
from itertools import product
from random import Random

from inkpaper import desk
from tests.cases import CallCase
from tests.forms import PICTURE_FAULTS, SCAN_FAULTS, picture_of, scan_of, streaky_rows

INTERFACE = {
    "judge_picture": ["picture"],
    "judge_scan": ["scan"],
    "greys": ["picture"],
    "draw": ["width", "height", "shades"],
    "points": ["scan"],
    "write": ["width", "height", "given"],
    "tell": ["r", "dark", "light", "below", "near", "picture"],
    "pose": ["s", "scan"],
    "turn": ["quarters", "scan"],
    "cut": ["x0", "y0", "x1", "y1", "scan"],
    "join": ["side", "one", "other"],
    "unspeck": ["k", "scan"],
    "plane": ["kind", "scan"],
    "count": ["x0", "y0", "x1", "y1", "scan"],
    "apart": ["one", "other"],
}
FAR = 4294967295
KINDS = (0, 1, 2)
SIZES = [(1, 1), (1, 7), (7, 1), (5, 4), (12, 12), (65, 2), (2, 65)]
TAILS = ([0], [1], [64], [128], [192], [255], [0] * 20, [255] * 20, list(range(256)))

PICTURE = picture_of([[200, 10, 200, 90], [200, 10, 200, 90], [200, 200, 200, 200]])
SCAN = scan_of([[0, 1, 0, 2], [0, 1, 0, 2], [1, 0, 0, 0]])
# Of each call that reads forms: its numbers, and which form stands where.
WITH_PICTURE = [("judge_picture", []), ("greys", []), ("tell", [1, 50, 150, 20, 10])]
WITH_SCAN = [
    ("judge_scan", []), ("points", []), ("pose", [3]), ("turn", [1]), ("cut", [1, 0, 3, 2]), ("unspeck", [2]),
    ("plane", [1]), ("count", [1, 0, 3, 2]),
]
WITH_TWO_SCANS = [("join", [0]), ("join", [1]), ("apart", [])]
GIVE_SCANS = [
    ("tell", [1, 50, 150, 20, 10], PICTURE), ("pose", [3], SCAN), ("pose", [0], SCAN), ("turn", [0], SCAN),
    ("turn", [1], SCAN), ("turn", [2], SCAN), ("cut", [1, 0, 3, 2], SCAN), ("unspeck", [0], SCAN),
    ("unspeck", [3], SCAN),
]


class Untouchable(list):
    """A list that can't be changed, not for a while either."""

    def refuse(self, *arguments, **named):
        raise AssertionError("what was handed in is changed")

    append = extend = insert = remove = pop = clear = sort = reverse = refuse
    __setitem__ = __delitem__ = __iadd__ = __imul__ = refuse


def call(name, *arguments):
    return getattr(desk, name)(*arguments)


def ordinary_calls():
    """One call at least of each function, not refused."""
    calls = [(name, numbers + [PICTURE]) for name, numbers in WITH_PICTURE]
    calls += [(name, numbers + [SCAN]) for name, numbers in WITH_SCAN]
    calls += [(name, numbers + [SCAN, SCAN]) for name, numbers in WITH_TWO_SCANS]
    calls += [("draw", [2, 2, [7, 7, 7, 8]]), ("write", [2, 2, [0, 1, 2, 2]])]
    return calls


def refused_calls():
    """One call at least of each function, refused; of those with several refusals one each."""
    calls = [(name, numbers + [[]]) for name, numbers in WITH_PICTURE + WITH_SCAN]
    calls += [(name, numbers + [SCAN, SCAN[:-1]]) for name, numbers in WITH_TWO_SCANS]
    calls += [("draw", [2, 2, [7, 7, 7]]), ("write", [2, 2, [0, 1, 2, 3]]), ("tell", [65, 1, 2, 3, 3, PICTURE])]
    calls += [("pose", [32, SCAN]), ("turn", [4, SCAN]), ("cut", [1, 1, 1, 2, SCAN]), ("join", [2, SCAN, SCAN])]
    calls += [("unspeck", [4097, SCAN]), ("plane", [3, SCAN]), ("count", [1, 1, 1, 2, SCAN])]
    calls += [("apart", [SCAN, scan_of([[1]])]), ("join", [0, scan_of([[1] * 8192]), SCAN])]
    return calls


def all_rows(seed):
    random = Random(seed)
    return [streaky_rows(random, width, height, KINDS) for width, height in SIZES]


class Interface(CallCase):
    def test_names_and_arguments(self):
        for name, wanted in INTERFACE.items():
            self.assertEqual(list(inspect.signature(getattr(desk, name)).parameters), wanted)

    def test_every_call_is_looked_at(self):
        self.assertEqual({name for name, arguments in ordinary_calls()}, set(INTERFACE))
        self.assertEqual({name for name, arguments in refused_calls()}, set(INTERFACE))

    def test_how_answers_begin(self):
        lengths = {"judge_picture": 3, "judge_scan": 3, "count": 4, "apart": 2}
        for name, arguments in ordinary_calls():
            answer = call(name, *arguments)
            self.assert_plain(answer)
            self.assertEqual(answer[0], 0, name)
            self.assertEqual(len(answer), lengths[name] if name in lengths else answer[1] + 2, name)

    def test_how_refusals_look(self):
        for name, arguments in refused_calls():
            answer = call(name, *arguments)
            self.assert_plain(answer)
            self.assertIn(answer[0], (-1, -2, -5, -6), name)
            self.assertEqual(len(answer), 4 if answer[0] == -5 else 1, name)

    def test_what_is_handed_in_is_never_changed(self):
        for name, arguments in ordinary_calls() + refused_calls():
            held = [Untouchable(entry) if isinstance(entry, list) else entry for entry in arguments]
            self.assertEqual(call(name, *held), call(name, *arguments), name)
            self.assert_unchanged(getattr(desk, name), *arguments)

    def test_answers_are_not_what_was_handed_in(self):
        for name, arguments in ordinary_calls():
            before = [list(entry) if isinstance(entry, list) else entry for entry in arguments]
            call(name, *arguments).clear()
            self.assertEqual(arguments, before, name)

    def test_nothing_is_kept(self):
        calls = ordinary_calls() + refused_calls()
        forwards = [call(name, *arguments) for name, arguments in calls]
        backwards = [call(name, *arguments) for name, arguments in reversed(calls)]
        self.assertEqual(forwards, backwards[::-1])

    def test_nothing_is_printed(self):
        said = io.StringIO()
        with redirect_stdout(said), redirect_stderr(said):
            for name, arguments in ordinary_calls() + refused_calls():
                call(name, *arguments)
        self.assertEqual(said.getvalue(), "")


class Refusals(CallCase):
    """-1, then -5, then -2, then -6."""

    WITH_WRONG_NUMBERS = [("pose", [32]), ("pose", [-32]), ("turn", [4]), ("unspeck", [4097]), ("plane", [3])]
    WITH_WRONG_BOXES = [
        ("cut", [0, 0, 0, 0]), ("count", [0, 0, 0, 0]), ("cut", [0, 0, FAR, 1]), ("count", [0, 0, FAR, 1]),
    ]

    def test_numbers_go_before_forms(self):
        for name, numbers in self.WITH_WRONG_NUMBERS:
            for scan in [SCAN] + [scan for rule, place, scan in SCAN_FAULTS]:
                self.assertEqual(call(name, *numbers, scan), [-1], name)
        for picture in [PICTURE] + [picture for rule, place, picture in PICTURE_FAULTS]:
            self.assertEqual(desk.tell(1, 5, 5, 1, 1, picture), [-1])
        for one, other in product([SCAN, [], scan_of([[1] * 8192])], repeat=2):
            self.assertEqual(desk.join(2, one, other), [-1])

    def test_forms_go_before_what_does_not_fit(self):
        for name, box in self.WITH_WRONG_BOXES:
            self.assertEqual(call(name, *box, SCAN), [-2], name)
            for rule, place, scan in SCAN_FAULTS:
                self.assertEqual(call(name, *box, scan), [-5, 0, rule, place], name)
        self.assertEqual(desk.apart(SCAN, scan_of([[1]])), [-2])

    def test_forms_go_before_what_is_too_large(self):
        longest = scan_of([[1] * 8192])
        self.assertEqual(desk.join(0, longest, longest), [-6])
        self.assertEqual(desk.join(0, longest, longest + [0]), [-5, 1, 7, len(longest)])
        self.assertEqual(desk.join(0, longest + [0], longest), [-5, 0, 7, len(longest)])

    def test_every_fault_is_told_by_every_call(self):
        for name, numbers in WITH_PICTURE:
            for rule, place, picture in PICTURE_FAULTS:
                self.assertEqual(call(name, *numbers, picture), [-5, 0, rule, place], name)
        for rule, place, scan in SCAN_FAULTS:
            for name, numbers in WITH_SCAN:
                self.assertEqual(call(name, *numbers, scan), [-5, 0, rule, place], name)
            for name, numbers in WITH_TWO_SCANS:
                self.assertEqual(call(name, *numbers, scan, SCAN), [-5, 0, rule, place], name)
                self.assertEqual(call(name, *numbers, SCAN, scan), [-5, 1, rule, place], name)
                self.assertEqual(call(name, *numbers, scan, []), [-5, 0, rule, place], name)


class FirstPromise(CallCase):
    """What's written is read as the same, what's read is written as the same bytes; a fault stays."""

    def test_points_written_and_read(self):
        for rows in all_rows(61):
            width, height, kinds = len(rows[0]), len(rows), sum(rows, [])
            scan = desk.write(width, height, kinds)[2:]
            self.assertEqual(desk.points(scan), [0, width * height] + kinds)
            self.assertEqual(desk.judge_scan(scan), [0, width, height])
            self.assertEqual(scan, scan_of(rows))

    def test_greys_drawn_and_read(self):
        random = Random(62)
        for width, height in SIZES:
            rows = streaky_rows(random, width, height, [0, 1, 128, 254, 255])
            shades = sum(rows, [])
            picture = desk.draw(width, height, shades)[2:]
            self.assertEqual(desk.greys(picture), [0, width * height] + shades)
            self.assertEqual(desk.judge_picture(picture), [0, width, height])
            self.assertEqual(picture, picture_of(rows))

    def assert_one_form(self, answer):
        scan = answer[2:]
        self.assertEqual(answer[:2], [0, len(scan)])
        width, height = desk.judge_scan(scan)[1:]
        self.assertEqual(desk.write(width, height, desk.points(scan)[2:]), answer)

    def test_every_scan_given_back_has_the_one_form(self):
        for name, numbers, form in GIVE_SCANS:
            self.assert_one_form(call(name, *numbers, form))
        for rows in all_rows(63):
            scan = scan_of(rows)
            for s, quarters, k in [(1, 1, 1), (-31, 2, 4096), (31, 3, 0), (-2, 0, 3)]:
                self.assert_one_form(desk.pose(s, scan))
                self.assert_one_form(desk.turn(quarters, scan))
                self.assert_one_form(desk.unspeck(k, scan))
            for side, other in product((0, 1), all_rows(64)):
                self.assert_one_form(desk.join(side, scan, scan_of(other)))

    def test_fault_stays(self):
        for rule, place, scan in SCAN_FAULTS:
            for tail in TAILS if rule not in (5, 7) else ():
                for name, numbers in WITH_SCAN:
                    self.assertEqual(call(name, *numbers, scan + tail), [-5, 0, rule, place], name)
                for name, numbers in WITH_TWO_SCANS:
                    self.assertEqual(call(name, *numbers, scan + tail, SCAN), [-5, 0, rule, place], name)
                    self.assertEqual(call(name, *numbers, SCAN, scan + tail), [-5, 1, rule, place], name)
        for rule, place, picture in PICTURE_FAULTS:
            for tail in TAILS if rule not in (5, 7) else ():
                for name, numbers in WITH_PICTURE:
                    self.assertEqual(call(name, *numbers, picture + tail), [-5, 0, rule, place], name)


class SecondPromise(CallCase):
    """Points are told by their windows alone; darker stays ink; one grey is one kind."""

    def test_window_cut_out_tells_the_same(self):
        """A window of its own, as a picture, tells its middle as the whole picture does."""
        random = Random(65)
        for r in (0, 1, 2):
            rows = [[random.randrange(256) for x in range(9)] for y in range(8)]
            rule = (r, 30, 220, 25, 10)
            whole = desk.tell(*rule, picture_of(rows))[2:]
            for x, y in product(range(9), range(8)):
                left, top = max(x - r, 0), max(y - r, 0)
                window = [row[left:x + r + 1] for row in rows[top:y + r + 1]]
                alone = desk.tell(*rule, picture_of(window))[2:]
                self.assertEqual(desk.cut(x - left, y - top, x - left + 1, y - top + 1, alone),
                                 desk.cut(x, y, x + 1, y + 1, whole))

    def test_darker_stays_ink(self):
        random = Random(66)
        rows = [[random.randrange(256) for x in range(6)] for y in range(6)]
        rule = (1, 10, 250, 20, 5)
        kinds = desk.points(desk.tell(*rule, picture_of(rows))[2:])[2:]
        self.assertIn(1, kinds)
        for place in [place for place, kind in enumerate(kinds) if kind == 1]:
            for darker in range(rows[place // 6][place % 6]):
                changed = [list(row) for row in rows]
                changed[place // 6][place % 6] = darker
                self.assertEqual(desk.points(desk.tell(*rule, picture_of(changed))[2:])[2 + place], 1)

    def test_one_grey_is_one_kind(self):
        for (width, height), grey in product(SIZES, (0, 40, 41, 199, 200, 255)):
            scan = desk.tell(2, 40, 200, 20, 10, picture_of([[grey] * width] * height))[2:]
            ink, paper = (width * height, 0) if grey <= 40 else (0, width * height)
            self.assertEqual(desk.count(0, 0, width, height, scan), [0, paper, ink, 0])


class ThirdPromise(CallCase):
    """Pose 0 changes nothing; four quarters are none; cut in two and put together is the same."""

    def test_pose_0(self):
        for rows in all_rows(67):
            self.assert_scan_answer(desk.pose(0, scan_of(rows)), rows)

    def test_four_quarters(self):
        for rows in all_rows(68):
            scan = scan_of(rows)
            for step in range(4):
                scan = desk.turn(1, scan)[2:]
            self.assertEqual(scan, scan_of(rows))

    def test_cut_in_two_and_put_together(self):
        for rows in all_rows(69):
            width, height, scan = len(rows[0]), len(rows), scan_of(rows)
            for x in range(1, width):
                parts = desk.cut(0, 0, x, height, scan)[2:], desk.cut(x, 0, width, height, scan)[2:]
                self.assert_scan_answer(desk.join(0, *parts), rows)
            for y in range(1, height):
                parts = desk.cut(0, 0, width, y, scan)[2:], desk.cut(0, y, width, height, scan)[2:]
                self.assert_scan_answer(desk.join(1, *parts), rows)

    def test_turned_below_is_beside(self):
        """The second below the first, turned, is the turned second beside which the turned first stands."""
        one, other = [[0, 1, 2], [1, 1, 0]], [[1, 0, 1]]
        turned = [desk.turn(1, scan_of(rows))[2:] for rows in (one, other)]
        below = desk.join(1, scan_of(one), scan_of(other))[2:]
        self.assertEqual(desk.turn(1, below), desk.join(0, turned[1], turned[0]))


class FourthPromise(CallCase):
    """Specks are just the pieces of so many points at most; cleared once is cleared."""

    def test_just_the_small_pieces(self):
        rows = [[1, 0, 1, 1, 0], [0, 0, 0, 0, 0], [1, 0, 1, 0, 2], [0, 1, 0, 0, 2]]
        one = [[2, 0, 1, 1, 0], [0, 0, 0, 0, 0], [1, 0, 1, 0, 2], [0, 1, 0, 0, 2]]
        two = [[2, 0, 2, 2, 0], [0, 0, 0, 0, 0], [1, 0, 1, 0, 2], [0, 1, 0, 0, 2]]
        three = [[2, 0, 2, 2, 0], [0, 0, 0, 0, 0], [2, 0, 2, 0, 2], [0, 2, 0, 0, 2]]
        for k, cleared in enumerate([rows, one, two, three, three]):
            self.assert_scan_answer(desk.unspeck(k, scan_of(rows)), cleared)

    def test_cleared_once_is_cleared(self):
        for rows, k in product(all_rows(70), (0, 1, 2, 5, 4096)):
            once = desk.unspeck(k, scan_of(rows))
            self.assertEqual(desk.unspeck(k, once[2:]), once)

    def test_pieces_turn_with_their_scan(self):
        for rows, k, quarters in product(all_rows(71), (1, 2, 5), (1, 2, 3)):
            scan = scan_of(rows)
            first, last = desk.turn(quarters, scan)[2:], desk.unspeck(k, scan)[2:]
            self.assertEqual(desk.unspeck(k, first), desk.turn(quarters, last))


class FifthPromise(CallCase):
    """Planes part the points; apart goes both ways, and by way of a clear scan no less."""

    def test_planes_part_the_points(self):
        for rows in all_rows(72):
            width, height, scan = len(rows[0]), len(rows), scan_of(rows)
            bits = [sum(word.bit_count() for word in desk.plane(kind, scan)[2:]) for kind in KINDS]
            self.assertEqual(desk.count(0, 0, width, height, scan), [0] + bits)
            planes = [desk.plane(kind, scan)[2:] for kind in KINDS]
            for words in zip(*planes, strict=True):
                self.assertEqual(sum(words), words[0] | words[1] | words[2])

    def test_apart_goes_both_ways(self):
        for one, other in zip(all_rows(73), all_rows(74)):
            self.assertEqual(desk.apart(scan_of(one), scan_of(other)), desk.apart(scan_of(other), scan_of(one)))

    def test_apart_by_way_of_a_clear_scan(self):
        for one, other, third in zip(all_rows(75), all_rows(76), all_rows(77)):
            clear = scan_of([[kind % 2 for kind in row] for row in third])
            straight = desk.apart(scan_of(one), scan_of(other))[1]
            by_way = desk.apart(scan_of(one), clear)[1] + desk.apart(clear, scan_of(other))[1]
            self.assertLessEqual(straight, by_way)

    def test_apart_is_where_planes_of_ink_and_paper_meet(self):
        for one, other in zip(all_rows(78), all_rows(79)):
            planes = [[desk.plane(kind, scan_of(rows))[2:] for rows in (one, other)] for kind in (0, 1)]
            paper, ink = planes
            met = [a & d | b & c for a, b, c, d in zip(paper[0], paper[1], ink[0], ink[1], strict=True)]
            self.assertEqual(desk.apart(scan_of(one), scan_of(other)), [0, sum(word.bit_count() for word in met)])

    def test_specks_alone_are_never_apart(self):
        for rows in all_rows(80):
            self.assertEqual(desk.apart(scan_of(rows), desk.unspeck(2, scan_of(rows))[2:]), [0, 0])


if __name__ == "__main__":
    unittest.main()
