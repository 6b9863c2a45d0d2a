"""ga_room (point 1): ordinary rooms, what is no room, the edges, and what is handed in and given back."""

import ast
import contextlib
import inspect
import io
import pathlib
import unittest

import reference
from watchedrooms import corners
from watchedrooms.corners import ga_room

LEAST, GREATEST = -2147483648, 2147483647

TRIANGLE = [(0, 0), (4, 0), (0, 3)]
SQUARE = [(0, 0), (4, 0), (4, 4), (0, 4)]
DART = [(0, 0), (4, 1), (8, 0), (4, 9)]
ANGLE = [(0, 0), (6, 0), (6, 2), (2, 2), (2, 6), (0, 6)]
# Its two upper walls lie on one line, apart from one another.
TROUGH = [(0, 0), (9, 0), (9, 5), (6, 5), (6, 2), (3, 2), (3, 5), (0, 5)]
SPIRAL = [(0, 0), (10, 0), (10, 10), (2, 10), (2, 4), (6, 4), (6, 6), (4, 6), (4, 8), (8, 8), (8, 2), (0, 2)]
WIDEST = [(-10000, -10000), (10000, -10000), (10000, 10000), (-10000, 10000)]


def comb(teeth):
    """Three corners a tooth; each tooth's tip up, notches between, the last corner closes the floor."""
    points = [(0, -5), (10 * teeth, -5)]
    for k in range(teeth - 1, -1, -1):
        points += [(10 * k + 8, 0), (10 * k + 5, 40), (10 * k + 2, 1)]
    return points


def star(points):
    """Corners that turn left and right by turns, on a square's outside and inside, in order round."""
    outer = [(100, 0), (100, 100), (0, 100), (-100, 100), (-100, 0), (-100, -100), (0, -100), (100, -100)]
    inner = [(20, 10), (10, 20), (-10, 20), (-20, 10), (-20, -10), (-10, -20), (10, -20), (20, -10)]
    joined = []
    for k in range(points):
        joined += [outer[k], inner[k]]
    return joined


def bowl(n):
    """n corners on a parabola: all of them turn left."""
    return [(20 * k, k * k) for k in range(n)]


def flat(points):
    return [number for point in points for number in point]


def turned(points, k):
    """The same walls, begun k corners later."""
    return points[k:] + points[:k]


class RoomCase(unittest.TestCase):
    def answer(self, n, xy, wanted):
        given = ga_room(n, xy)
        self.assertIs(type(given), list)
        self.assertEqual([type(number) for number in given], [int] * len(given))
        self.assertEqual(given, [wanted], (n, xy))

    def check(self, points, wanted):
        """The answer is the same at whichever corner the walls begin."""
        for k in range(len(points)):
            self.answer(len(points), flat(turned(points, k)), wanted)

    def check_neither_way(self, points, *reasons):
        """No room whichever way the walls are gone along, for these reasons and no other."""
        self.assertEqual(reference.reasons(len(points), flat(points)), list(reasons), points)
        self.check(points, 0)
        self.check(points[::-1], 0)


class OrdinaryRooms(RoomCase):
    def test_few_corners(self):
        for points in (TRIANGLE, SQUARE, DART, ANGLE):
            self.check(points, 1)

    def test_many_corners_left_and_right(self):
        for points in (TROUGH, SPIRAL, star(8), comb(3), comb(7)):
            self.check(points, 1)

    def test_all_corners_left(self):
        for n in range(3, 25):
            self.check(bowl(n), 1)

    def test_anywhere(self):
        for dx, dy in ((-9000, 9000), (7, -8000), (-50, -30)):
            self.check([(x + dx, y + dy) for x, y in SPIRAL], 1)

    def test_walls_on_one_line_lie_apart(self):
        self.check(TROUGH, 1)
        self.check([(y, -x) for x, y in TROUGH], 1)
        self.check([(x, x + y) for x, y in TROUGH], 1)

    def test_corner_on_the_line_of_a_wall_but_off_the_wall(self):
        self.check([(0, 0), (9, 0), (9, 9), (6, 9), (6, 3), (3, 6), (2, 4), (0, 9)], 1)
        self.check([(0, 0), (8, 0), (8, 8), (5, 3), (4, 6), (3, 3)], 1)


class NoRooms(RoomCase):
    def test_walls_that_cross(self):
        self.check_neither_way([(0, 0), (4, 4), (4, 0), (0, 3)], "cross")
        self.check_neither_way([(0, 0), (9, 0), (9, 4), (5, -2), (0, 5)], "cross")
        self.check_neither_way([(0, 0), (8, 1), (1, 6), (4, -3), (7, 7)], "cross")

    def test_first_wall_crosses_last_but_one(self):
        self.check_neither_way([(0, 0), (10, 0), (10, 6), (4, 6), (5, -3), (-2, 5)], "cross")

    def test_round_twice(self):
        points = [(0, 0), (10, 0), (10, 10), (-2, 10), (-2, -3), (14, -3), (14, 13), (-4, 13)]
        self.check_neither_way(points, "cross")

    def test_corner_on_another_wall(self):
        self.check_neither_way([(0, 0), (8, 0), (8, 6), (4, 0), (0, 6)], "touch")
        self.check_neither_way([(0, 0), (8, 4), (6, 9), (4, 2), (-2, 5)], "touch")
        self.check_neither_way([(0, 0), (9, 0), (9, 9), (5, 9), (6, 0), (4, 7), (0, 8)], "touch")

    def test_corner_on_another_wall_from_the_outside(self):
        self.check_neither_way([(0, 0), (9, 0), (9, 9), (3, 9), (3, 6), (7, 7), (5, 3), (3, 4), (2, 0), (0, 5)], "touch")
        self.check_neither_way([(0, 0), (10, 0), (10, 10), (2, 10), (2, 8), (8, 8), (8, 2), (6, 2), (5, 8), (4, 2)], "touch")

    def test_a_hair_off_the_wall_is_a_room(self):
        below = [(-10000, -10000), (10000, 9999), (9000, 10000), (0, 0), (-10000, 9000)]
        self.check(below, 1)
        on = [(-10000, -10000), (10000, 10000), (9000, 10000), (0, 0), (-10000, 9000)]
        self.check_neither_way(on, "touch")

    def test_two_corners_at_one_place(self):
        self.check_neither_way([(0, 0), (4, 4), (8, 0), (9, 7), (4, 4), (1, 8)], "touch")
        self.check_neither_way([(0, 0), (8, 0), (4, 4), (8, 8), (0, 8), (4, 4)], "touch")
        self.check_neither_way([(0, 0), (9, 1), (7, 5), (0, 0), (5, 7), (1, 9)], "touch")

    def test_neighbours_at_one_place(self):
        self.check_neither_way([(0, 0), (4, 0), (4, 0), (4, 4), (0, 4)], "line")
        self.check_neither_way([(0, 0), (0, 0), (4, 4)], "line")
        self.check_neither_way([(5, 5), (5, 5), (5, 5)], "line")

    def test_walls_that_lie_on_one_another(self):
        partly = [(0, 0), (8, 0), (8, 9), (4, 7), (4, 2), (1, 3), (4, 5), (4, 10), (0, 9)]
        one_in_another = [(0, 0), (8, 0), (8, 9), (4, 9), (4, 2), (1, 3), (4, 4), (4, 6), (0, 9)]
        wholly = [(0, 0), (8, 0), (8, 9), (4, 9), (4, 3), (6, 1), (2, 1), (4, 3), (4, 9), (0, 8)]
        for points in (partly, one_in_another, wholly):
            self.check_neither_way(points, "overlap", "touch")
            self.check_neither_way([(y, -x) for x, y in points], "overlap", "touch")
            self.check_neither_way([(x + y, y) for x, y in points], "overlap", "touch")

    def test_three_on_a_line_straight_on(self):
        self.check_neither_way([(0, 0), (2, 0), (4, 0), (4, 4), (0, 4)], "line")
        self.check_neither_way([(0, 0), (9, 0), (6, 2), (3, 4)], "line")
        self.check_neither_way([(0, 0), (2, 2), (9, 9)], "line")

    def test_three_on_a_line_back_again(self):
        self.check_neither_way([(0, 0), (8, 0), (4, 0)], "line")
        self.check_neither_way([(0, 0), (8, 0), (4, 0), (4, 4)], "line")
        self.check_neither_way([(0, 0), (4, 0), (-4, 0), (-4, 4)], "line")
        self.check_neither_way([(0, 0), (5, 5), (0, 0), (0, 5)], "line")

    def test_three_on_a_line_across_the_last_and_the_first(self):
        self.answer(5, [2, 0, 4, 0, 4, 4, 0, 4, 0, 0], 0)
        self.answer(5, [4, 0, 4, 4, 0, 4, 0, 0, 2, 0], 0)
        self.answer(5, [0, 0, 2, 0, 4, 0, 4, 4, 0, 4], 0)

    def test_room_on_the_right(self):
        rooms = (TRIANGLE, SQUARE, DART, ANGLE, TROUGH, SPIRAL, WIDEST, star(8), comb(7), bowl(24))
        for points in rooms:
            self.check(points, 1)
            self.check(points[::-1], 0)

    def test_room_on_the_right_with_most_corners_left(self):
        points = [(0, 0), (1, 4), (2, 1), (3, 5), (4, 1), (5, 5), (6, 0)]
        self.check(points, 0)
        self.check(points[::-1], 1)


class HowManyCorners(RoomCase):
    def test_least(self):
        self.check(TRIANGLE, 1)
        self.check(TRIANGLE[::-1], 0)
        self.answer(3, [0, 0, 1, 1, 2, 2], 0)

    def test_greatest(self):
        self.check(bowl(24), 1)
        # One notch of the saw goes through its floor in the end.
        saw = [(0, -5), (120, -5)] + [(115 - 5 * k, 40 if k % 2 else 0) for k in range(22)]
        self.check(saw, 1)
        saw[10] = (saw[10][0], -6)
        self.check_neither_way(saw, "cross")

    def test_beyond(self):
        for n in (2, 1, 0, -1, -2, -3, -24, 25, 26, 48, 1000, LEAST, LEAST + 1, GREATEST - 1, GREATEST):
            self.answer(n, [], -2)


class HowGreatNumbers(RoomCase):
    NO_ROOM = [(0, 0), (4, 4), (4, 0), (0, 3)]

    def test_at_the_edge(self):
        self.check(WIDEST, 1)
        self.check([(-10000, 10000), (-10000, -10000), (10000, 0)], 1)
        self.check([(-10000, 0), (0, -10000), (10000, 0), (0, 10000)], 1)
        self.check([(-10000, -10000), (10000, 10000), (10000, -10000), (-10000, 10000)], 0)

    def test_at_the_edge_at_each_place(self):
        for points in (TRIANGLE, self.NO_ROOM, SPIRAL, bowl(24)):
            for place in range(2 * len(points)):
                for number in (-10000, 10000):
                    xy = flat(points)
                    xy[place] = number
                    self.assertIn(ga_room(len(points), xy), ([0], [1]))

    def test_beyond_at_each_place(self):
        for points in (TRIANGLE, WIDEST, self.NO_ROOM, SPIRAL, SPIRAL[::-1], bowl(24), [(0, 0)] * 5):
            for place in range(2 * len(points)):
                for number in (-10001, 10001, -20000, 20000, LEAST, GREATEST):
                    xy = flat(points)
                    xy[place] = number
                    self.answer(len(points), xy, -2)

    def test_all_beyond(self):
        self.answer(3, [LEAST, LEAST, GREATEST, LEAST, GREATEST, GREATEST], -2)

    def test_as_thin_as_can_be(self):
        self.check([(-10000, -10000), (10000, 9999), (-9999, -9999)], 1)
        self.check([(-10000, -10000), (-9999, -9999), (10000, 9999)], 0)
        self.check([(-10000, -10000), (10000, 10000), (-9999, -9999)], 0)


class LockedList(list):
    """A list that can be read alone, and reports whoever would change it."""


def refuse(*unused):
    raise AssertionError("the list that was handed in is changed")


for name in ("append", "clear", "extend", "insert", "pop", "remove", "reverse", "sort",
             "__setitem__", "__delitem__", "__iadd__", "__imul__"):
    setattr(LockedList, name, refuse)


class HandedInAndGivenBack(RoomCase):
    CASES = ((3, flat(TRIANGLE)), (12, flat(SPIRAL)), (4, [0, 0, 4, 4, 4, 0, 0, 4]), (3, [0, 0, 1, 1, 2, 2]),
             (3, [0, 0, 10001, 0, 0, 1]), (2, []), (25, []))

    def test_interface(self):
        self.assertEqual(list(inspect.signature(ga_room).parameters), ["n", "xy"])
        self.assertEqual(ga_room(n=3, xy=flat(TRIANGLE)), [1])

    def test_list_is_as_it_was(self):
        for n, xy in self.CASES:
            handed = list(xy)
            ga_room(n, handed)
            self.assertEqual(handed, xy)

    def test_list_is_not_changed_for_a_while_either(self):
        for n, xy in self.CASES:
            self.assertEqual(ga_room(n, LockedList(xy)), ga_room(n, xy))

    def test_again_as_the_first_time(self):
        first = [ga_room(n, list(xy)) for n, xy in self.CASES]
        self.assertEqual(first, [[1], [1], [0], [0], [-2], [-2], [-2]])
        for n, xy in self.CASES:
            self.assertEqual(ga_room(n, xy), ga_room(n, xy))
        self.assertEqual([ga_room(n, list(xy)) for n, xy in reversed(self.CASES)], first[::-1])

    def test_what_is_given_back_is_the_callers(self):
        for n, xy in self.CASES:
            given = ga_room(n, xy)
            wanted = list(given)
            self.assertIsNot(given, xy)
            given.append(7)
            given[0] = 99
            self.assertEqual(ga_room(n, xy), wanted)

    def test_prints_nothing(self):
        out, err = io.StringIO(), io.StringIO()
        with contextlib.redirect_stdout(out), contextlib.redirect_stderr(err):
            for n, xy in self.CASES:
                ga_room(n, xy)
        self.assertEqual(out.getvalue() + err.getvalue(), "")

    def test_imports_nothing(self):
        tree = ast.parse(pathlib.Path(corners.__file__).read_text())
        self.assertEqual([node for node in ast.walk(tree) if isinstance(node, (ast.Import, ast.ImportFrom))], [])


if __name__ == "__main__":
    unittest.main()
