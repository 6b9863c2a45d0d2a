"""ga_three (point 4): a colour for each corner, none twice in a triangle of ga_cut's; the edges; what is refused."""

import random
import unittest

from calls import CallCase, HandedInAndGivenBack, RefusesNoRooms, RefusesNumbers
from rooms import (ANGLE, CROWN, DART, SPIRAL, SQUARE, TRIANGLE, TROUGH, WIDEST, bowl, comb, flat, grown, saw, star,
                   turned)
from watchedrooms.corners import ga_cut, ga_three

# Corner 3 is the first to go, without corners 0 and 1; their triangle comes last but one.
LATE = ([(1, 2), (4, 0), (1, 4), (0, 1), (1, 3), (0, 0)],
        [(0, 0), (20, 0), (17, 14), (18, 15), (13, 11), (10, 20), (9, 1), (6, 11)],
        [(2, 1), (2, 4), (5, 3), (9, 0), (3, 6), (6, 7), (7, 4), (8, 7), (6, 8), (3, 9), (0, 0), (8, 0)])


def triangles_of(points):
    given = ga_cut(len(points), flat(points))
    return [given[k:k + 3] for k in range(1, len(given), 3)]


def where_both(triangles):
    """The place of the triangle that has corners 0 and 1; as they share a wall, there is one."""
    [place] = [k for k, triangle in enumerate(triangles) if 0 in triangle and 1 in triangle]
    return place


class ThreeCase(CallCase):
    def check(self, points):
        """All that's promised of the colours; as the triangles hang together, there is one answer that keeps it."""
        given = ga_three(len(points), flat(points))
        self.assertEqual((given[0], len(given)), (0, 1 + len(points)))
        self.answer(ga_three, (len(points), flat(points)), given)
        colours = given[1:]
        self.assertEqual(colours[:2], [0, 1])
        for triangle in triangles_of(points):
            self.assertEqual(sorted(colours[i] for i in triangle), [0, 1, 2], (points, triangle))

    def check_each_begin(self, points):
        for k in range(len(points)):
            self.check(turned(points, k))


class Ordinary(ThreeCase):
    def test_few_corners(self):
        self.answer(ga_three, (3, flat(TRIANGLE)), [0, 0, 1, 2])
        self.answer(ga_three, (4, flat(SQUARE)), [0, 0, 1, 0, 2])
        self.answer(ga_three, (4, flat(DART)), [0, 0, 1, 0, 2])
        self.answer(ga_three, (4, flat(turned(DART, 1))), [0, 0, 1, 2, 1])
        self.answer(ga_three, (6, flat(ANGLE)), [0, 0, 1, 2, 1, 0, 2])

    def test_few_corners_each_begin(self):
        for points in (TRIANGLE, SQUARE, DART, ANGLE):
            self.check_each_begin(points)

    def test_many_corners_all_left(self):
        for n in range(3, 25):
            self.answer(ga_three, (n, flat(bowl(n))), [0] + [k % 2 for k in range(n - 1)] + [2])
            self.check_each_begin(bowl(n))

    def test_many_corners_left_and_right(self):
        for points in (TROUGH, SPIRAL, CROWN, star(8), comb(3), comb(7), saw()):
            self.check_each_begin(points)

    def test_many_small_rooms(self):
        source = random.Random(10)
        for turn in range(150):
            points = grown(source, source.randint(3, 24), 0, source.randint(3, 7))
            self.check(turned(points, source.randrange(len(points))))

    def test_many_large_rooms(self):
        source = random.Random(11)
        for turn in range(60):
            points = grown(source, source.randint(3, 24), -10000, 10000)
            self.check(turned(points, source.randrange(len(points))))


class WhereCornersZeroAndOneAre(ThreeCase):
    def test_neither_in_the_first_triangle(self):
        for points in LATE:
            first = triangles_of(points)[0]
            self.assertEqual([i for i in (0, 1) if i in first], [])
            self.check(points)

    def test_both_in_the_first_triangle(self):
        for points in (SQUARE, DART, ANGLE, SPIRAL, bowl(24)):
            self.assertEqual(where_both(triangles_of(points)), 0)
            self.check(points)

    def test_both_in_the_last_triangle(self):
        # Of four corners left two that aren't neighbours are ears, so 0 or 1 is: with more than three corners,
        # their triangle comes last but one at the latest.
        for k in range(3):
            self.assertEqual(where_both(triangles_of(turned(TRIANGLE, k))), 0)
            self.answer(ga_three, (3, flat(turned(TRIANGLE, k))), [0, 0, 1, 2])

    def test_both_in_the_last_but_one(self):
        for points in LATE:
            self.assertEqual(where_both(triangles_of(points)), len(points) - 4)
            self.check(points)
        self.answer(ga_three, (6, flat(LATE[0])), [0, 0, 1, 0, 1, 2, 1])


class Edges(RefusesNumbers, RefusesNoRooms, ThreeCase):
    def ask(self, n, xy):
        return ga_three(n, xy)

    def test_widest(self):
        self.answer(ga_three, (4, flat(WIDEST)), [0, 0, 1, 0, 2])

    def test_most_corners(self):
        for points in (bowl(24), saw()):
            self.check_each_begin(points)


class WhatIsHandedInAndGivenBack(HandedInAndGivenBack, ThreeCase):
    NAMES = ["n", "xy"]
    CASES = [((3, flat(TRIANGLE)), [0, 0, 1, 2]), ((4, flat(SQUARE)), [0, 0, 1, 0, 2]),
             ((6, flat(ANGLE)), [0, 0, 1, 2, 1, 0, 2]), ((4, [0, 0, 4, 4, 4, 0, 0, 4]), [-3]),
             ((3, [0, 0, 1, 1, 2, 2]), [-3]), ((3, [0, 0, 10001, 0, 0, 1]), [-2]), ((2, []), [-2]), ((25, []), [-2])]

    def function(self):
        return ga_three


if __name__ == "__main__":
    unittest.main()
