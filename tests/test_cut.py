"""ga_cut (point 3): the triangles in their order, corner by corner; the edges; what is refused."""

import random
import unittest

import reference
from calls import CallCase, HandedInAndGivenBack, RefusesNoRooms, RefusesNumbers
from rooms import (ANGLE, CROWN, DART, SPIRAL, SQUARE, TRIANGLE, TROUGH, WIDEST, bowl, comb, flat, grown, saw, star,
                   turned)
from watchedrooms.corners import ga_cut, ga_holds

# Corner 3 lies on the way between the neighbours of corner 0.
ON_SIDE = [(0, 0), (4, 0), (6, 4), (2, 2), (3, 6), (0, 4)]
# Without corner 0, corners 5, 1 and 2 are on one line.
DENT = [(1, -1), (2, 0), (4, 0), (4, 4), (0, 4), (0, 0)]


def twice_area(points):
    return sum(points[k - 1][0] * points[k][1] - points[k][0] * points[k - 1][1] for k in range(len(points)))


class CutCase(CallCase):
    def check(self, points, *triangles):
        wanted = [len(points) - 2] + [corner for triangle in triangles for corner in triangle]
        self.answer(ga_cut, (len(points), flat(points)), wanted)


class FewCorners(CutCase):
    def test_three(self):
        for k in range(3):
            self.check(turned(TRIANGLE, k), (2, 0, 1))

    def test_all_corners_left(self):
        for k in range(4):
            self.check(turned(SQUARE, k), (3, 0, 1), (3, 1, 2))

    def test_a_corner_right(self):
        self.check(DART, (3, 0, 1), (3, 1, 2))
        self.check(ANGLE, (0, 1, 2), (0, 2, 3), (5, 0, 3), (5, 3, 4))

    def test_least_turns_right(self):
        self.check(turned(DART, 1), (0, 1, 2), (3, 0, 2))
        self.check(turned(ANGLE, 3), (0, 1, 2), (0, 2, 3), (5, 0, 3), (5, 3, 4))

    def test_another_in_the_triangle_of_the_least(self):
        self.check(ANGLE, (0, 1, 2), (0, 2, 3), (5, 0, 3), (5, 3, 4))
        # Corner 3 lies deep within.
        self.check([(0, 0), (9, 0), (9, 5), (1, 1), (5, 9), (0, 9)], (0, 1, 2), (0, 2, 3), (5, 0, 3), (5, 3, 4))

    def test_another_on_the_side_of_the_least(self):
        self.check(ON_SIDE, (0, 1, 2), (0, 2, 3), (5, 0, 3), (5, 3, 4))
        # A little off it, and the least is an ear.
        off = ON_SIDE[:3] + [(3, 2)] + ON_SIDE[4:]
        self.check(off, (5, 0, 1), (1, 2, 3), (5, 1, 3), (5, 3, 4))

    def test_three_of_those_left_on_one_line(self):
        self.check(DENT, (5, 0, 1), (1, 2, 3), (5, 1, 3), (5, 3, 4))
        # When corners 0 and 2 are gone, corners 5, 1 and 3 are on one line.
        teeth = [(1, -1), (2, 0), (3, -1), (4, 0), (2, 5), (0, 0)]
        self.check(teeth, (5, 0, 1), (1, 2, 3), (1, 3, 4), (5, 1, 4))
        self.check(turned(teeth, 5), (5, 0, 1), (5, 1, 2), (5, 2, 3), (5, 3, 4))

    def test_three_of_those_left_on_one_line_and_one_aside(self):
        # When corner 2 is gone, corner 3 lies on the way straight on from 1 to 4, which is a side of corner 0's triangle.
        self.check([(0, 4), (-3, 0), (2, -1), (0, 0), (3, 0)], (1, 2, 3), (0, 1, 3), (4, 0, 3))


class ManyCorners(CutCase):
    def test_all_corners_left(self):
        for n in range(3, 25):
            self.check(bowl(n), *[(n - 1, k, k + 1) for k in range(n - 2)])

    def test_bays(self):
        for points in (TROUGH, SPIRAL, CROWN, star(8), comb(3), comb(7), saw()):
            for k in range(len(points)):
                begun = turned(points, k)
                self.check(begun, *reference.cut(len(points), flat(begun)))


class Edges(RefusesNumbers, RefusesNoRooms, CutCase):
    def ask(self, n, xy):
        return ga_cut(n, xy)

    def test_widest(self):
        for k in range(4):
            self.check(turned(WIDEST, k), (3, 0, 1), (3, 1, 2))

    def test_as_thin_as_can_be(self):
        # Corner 2 lies within the triangle of corner 0 by a hair, or beyond it by a hair.
        self.check([(-10000, -10000), (10000, -10000), (0, -1), (-10000, 10000)], (0, 1, 2), (3, 0, 2))
        self.check([(-10000, -10000), (10000, -10000), (0, 1), (-10000, 10000)], (3, 0, 1), (3, 1, 2))

    def test_most_corners(self):
        for points in (bowl(24), saw()):
            given = ga_cut(24, flat(points))
            self.assertEqual((given[0], len(given)), (22, 67))


class WhatIsHandedInAndGivenBack(HandedInAndGivenBack, CutCase):
    NAMES = ["n", "xy"]
    CASES = [((3, flat(TRIANGLE)), [1, 2, 0, 1]), ((4, flat(SQUARE)), [2, 3, 0, 1, 3, 1, 2]),
             ((6, flat(ANGLE)), [4, 0, 1, 2, 0, 2, 3, 5, 0, 3, 5, 3, 4]), ((4, [0, 0, 4, 4, 4, 0, 0, 4]), [-3]),
             ((3, [0, 0, 1, 1, 2, 2]), [-3]), ((3, [0, 0, 10001, 0, 0, 1]), [-2]), ((2, []), [-2]), ((25, []), [-2])]

    def function(self):
        return ga_cut


class AgainstReference(CutCase):
    def check_room(self, points):
        self.check(points, *reference.cut(len(points), flat(points)))
        given = ga_cut(len(points), flat(points))
        triangles = [[points[i] for i in given[k:k + 3]] for k in range(1, len(given), 3)]
        self.assertEqual(sum(twice_area(triangle) for triangle in triangles), twice_area(points))
        for triangle in triangles:
            self.assertGreater(twice_area(triangle), 0)

    def test_many_small_rooms(self):
        source = random.Random(7)
        for turn in range(150):
            points = grown(source, source.randint(3, 24), 0, source.randint(3, 7))
            self.check_room(turned(points, source.randrange(len(points))))

    def test_many_large_rooms(self):
        source = random.Random(8)
        for turn in range(60):
            points = grown(source, source.randint(3, 24), -10000, 10000)
            self.check_room(turned(points, source.randrange(len(points))))

    def test_middles_of_triangles_are_held(self):
        source = random.Random(9)
        for turn in range(60):
            # Numbers that three goes into, so that the middle of three corners is at a whole place.
            points = [(3 * x, 3 * y) for x, y in grown(source, source.randint(3, 24), 0, 6)]
            n, xy = len(points), flat(points)
            given = ga_cut(n, xy)
            for k in range(1, len(given), 3):
                x, y = [sum(points[i][axis] for i in given[k:k + 3]) // 3 for axis in (0, 1)]
                self.assertEqual(ga_holds(n, x, y, xy), [1])


if __name__ == "__main__":
    unittest.main()
