"""ga_room (point 1): ordinary rooms, what is no room, the edges, and what is handed in and given back."""

import unittest

import reference
from calls import CallCase, HandedInAndGivenBack, RefusesNumbers
from rooms import ANGLE, DART, SPIRAL, SQUARE, TRIANGLE, TROUGH, WIDEST, bowl, comb, flat, saw, star, turned
from watchedrooms.corners import ga_room


class RoomCase(CallCase):
    def check(self, points, wanted):
        """The answer is the same at whichever corner the walls begin."""
        for k in range(len(points)):
            self.answer(ga_room, (len(points), flat(turned(points, k))), [wanted])

    def check_neither_way(self, points, *reasons):
        """No room whichever way the walls are gone along, for these reasons and no other."""
        self.assertEqual(reference.reasons(len(points), flat(points)), list(reasons), points)
        self.check(points, 0)
        self.check(points[::-1], 0)


class OrdinaryRooms(RoomCase):
    def test_few_corners(self):
        for points in (TRIANGLE, SQUARE, DART, ANGLE):
            self.check(points, 1)

    def test_many_corners_left_and_right(self):
        for points in (TROUGH, SPIRAL, star(8), comb(3), comb(7)):
            self.check(points, 1)

    def test_all_corners_left(self):
        for n in range(3, 25):
            self.check(bowl(n), 1)

    def test_anywhere(self):
        for dx, dy in ((-9000, 9000), (7, -8000), (-50, -30)):
            self.check([(x + dx, y + dy) for x, y in SPIRAL], 1)

    def test_walls_on_one_line_lie_apart(self):
        self.check(TROUGH, 1)
        self.check([(y, -x) for x, y in TROUGH], 1)
        self.check([(x, x + y) for x, y in TROUGH], 1)

    def test_corner_on_the_line_of_a_wall_but_off_the_wall(self):
        self.check([(0, 0), (9, 0), (9, 9), (6, 9), (6, 3), (3, 6), (2, 4), (0, 9)], 1)
        self.check([(0, 0), (8, 0), (8, 8), (5, 3), (4, 6), (3, 3)], 1)


class NoRooms(RoomCase):
    def test_walls_that_cross(self):
        self.check_neither_way([(0, 0), (4, 4), (4, 0), (0, 3)], "cross")
        self.check_neither_way([(0, 0), (9, 0), (9, 4), (5, -2), (0, 5)], "cross")
        self.check_neither_way([(0, 0), (8, 1), (1, 6), (4, -3), (7, 7)], "cross")

    def test_first_wall_crosses_last_but_one(self):
        self.check_neither_way([(0, 0), (10, 0), (10, 6), (4, 6), (5, -3), (-2, 5)], "cross")

    def test_round_twice(self):
        points = [(0, 0), (10, 0), (10, 10), (-2, 10), (-2, -3), (14, -3), (14, 13), (-4, 13)]
        self.check_neither_way(points, "cross")

    def test_corner_on_another_wall(self):
        self.check_neither_way([(0, 0), (8, 0), (8, 6), (4, 0), (0, 6)], "touch")
        self.check_neither_way([(0, 0), (8, 4), (6, 9), (4, 2), (-2, 5)], "touch")
        self.check_neither_way([(0, 0), (9, 0), (9, 9), (5, 9), (6, 0), (4, 7), (0, 8)], "touch")

    def test_corner_on_another_wall_from_the_outside(self):
        self.check_neither_way([(0, 0), (9, 0), (9, 9), (3, 9), (3, 6), (7, 7), (5, 3), (3, 4), (2, 0), (0, 5)], "touch")
        self.check_neither_way([(0, 0), (10, 0), (10, 10), (2, 10), (2, 8), (8, 8), (8, 2), (6, 2), (5, 8), (4, 2)], "touch")

    def test_a_hair_off_the_wall_is_a_room(self):
        below = [(-10000, -10000), (10000, 9999), (9000, 10000), (0, 0), (-10000, 9000)]
        self.check(below, 1)
        on = [(-10000, -10000), (10000, 10000), (9000, 10000), (0, 0), (-10000, 9000)]
        self.check_neither_way(on, "touch")

    def test_two_corners_at_one_place(self):
        self.check_neither_way([(0, 0), (4, 4), (8, 0), (9, 7), (4, 4), (1, 8)], "touch")
        self.check_neither_way([(0, 0), (8, 0), (4, 4), (8, 8), (0, 8), (4, 4)], "touch")
        self.check_neither_way([(0, 0), (9, 1), (7, 5), (0, 0), (5, 7), (1, 9)], "touch")

    def test_neighbours_at_one_place(self):
        self.check_neither_way([(0, 0), (4, 0), (4, 0), (4, 4), (0, 4)], "line")
        self.check_neither_way([(0, 0), (0, 0), (4, 4)], "line")
        self.check_neither_way([(5, 5), (5, 5), (5, 5)], "line")

    def test_walls_that_lie_on_one_another(self):
        partly = [(0, 0), (8, 0), (8, 9), (4, 7), (4, 2), (1, 3), (4, 5), (4, 10), (0, 9)]
        one_in_another = [(0, 0), (8, 0), (8, 9), (4, 9), (4, 2), (1, 3), (4, 4), (4, 6), (0, 9)]
        wholly = [(0, 0), (8, 0), (8, 9), (4, 9), (4, 3), (6, 1), (2, 1), (4, 3), (4, 9), (0, 8)]
        for points in (partly, one_in_another, wholly):
            self.check_neither_way(points, "overlap", "touch")
            self.check_neither_way([(y, -x) for x, y in points], "overlap", "touch")
            self.check_neither_way([(x + y, y) for x, y in points], "overlap", "touch")

    def test_three_on_a_line_straight_on(self):
        self.check_neither_way([(0, 0), (2, 0), (4, 0), (4, 4), (0, 4)], "line")
        self.check_neither_way([(0, 0), (9, 0), (6, 2), (3, 4)], "line")
        self.check_neither_way([(0, 0), (2, 2), (9, 9)], "line")

    def test_three_on_a_line_back_again(self):
        self.check_neither_way([(0, 0), (8, 0), (4, 0)], "line")
        self.check_neither_way([(0, 0), (8, 0), (4, 0), (4, 4)], "line")
        self.check_neither_way([(0, 0), (4, 0), (-4, 0), (-4, 4)], "line")
        self.check_neither_way([(0, 0), (5, 5), (0, 0), (0, 5)], "line")

    def test_three_on_a_line_across_the_last_and_the_first(self):
        self.answer(ga_room, (5, [2, 0, 4, 0, 4, 4, 0, 4, 0, 0]), [0])
        self.answer(ga_room, (5, [4, 0, 4, 4, 0, 4, 0, 0, 2, 0]), [0])
        self.answer(ga_room, (5, [0, 0, 2, 0, 4, 0, 4, 4, 0, 4]), [0])

    def test_room_on_the_right(self):
        rooms = (TRIANGLE, SQUARE, DART, ANGLE, TROUGH, SPIRAL, WIDEST, star(8), comb(7), bowl(24))
        for points in rooms:
            self.check(points, 1)
            self.check(points[::-1], 0)

    def test_room_on_the_right_with_most_corners_left(self):
        points = [(0, 0), (1, 4), (2, 1), (3, 5), (4, 1), (5, 5), (6, 0)]
        self.check(points, 0)
        self.check(points[::-1], 1)


class HowManyCorners(RoomCase):
    def test_least(self):
        self.check(TRIANGLE, 1)
        self.check(TRIANGLE[::-1], 0)
        self.answer(ga_room, (3, [0, 0, 1, 1, 2, 2]), [0])

    def test_greatest(self):
        self.check(bowl(24), 1)
        # One notch of the saw goes through its floor in the end.
        points = saw()
        self.check(points, 1)
        points[10] = (points[10][0], -6)
        self.check_neither_way(points, "cross")


class HowGreatNumbers(RefusesNumbers, RoomCase):
    def ask(self, n, xy):
        return ga_room(n, xy)

    def test_at_the_edge(self):
        self.check(WIDEST, 1)
        self.check([(-10000, 10000), (-10000, -10000), (10000, 0)], 1)
        self.check([(-10000, 0), (0, -10000), (10000, 0), (0, 10000)], 1)
        self.check([(-10000, -10000), (10000, 10000), (10000, -10000), (-10000, 10000)], 0)

    def test_as_thin_as_can_be(self):
        self.check([(-10000, -10000), (10000, 9999), (-9999, -9999)], 1)
        self.check([(-10000, -10000), (-9999, -9999), (10000, 9999)], 0)
        self.check([(-10000, -10000), (10000, 10000), (-9999, -9999)], 0)


class WhatIsHandedInAndGivenBack(HandedInAndGivenBack, RoomCase):
    NAMES = ["n", "xy"]
    CASES = [((3, flat(TRIANGLE)), [1]), ((12, flat(SPIRAL)), [1]), ((4, [0, 0, 4, 4, 4, 0, 0, 4]), [0]),
             ((3, [0, 0, 1, 1, 2, 2]), [0]), ((3, [0, 0, 10001, 0, 0, 1]), [-2]), ((2, []), [-2]), ((25, []), [-2])]

    def function(self):
        return ga_room


if __name__ == "__main__":
    unittest.main()
