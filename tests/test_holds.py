"""ga_holds (point 2): points within, outside, on walls and at the height of corners; the edges; what is refused."""

import random
import unittest

import reference
from calls import GREATEST, LEAST, CallCase, HandedInAndGivenBack, RefusesNoRooms, RefusesNumbers
from rooms import (ANGLE, CROWN, DART, NO_ROOMS, SPIRAL, SQUARE, TRIANGLE, TROUGH, WIDEST, bowl, comb, flat, grown,
                   saw, star, turned, ways_round)
from watchedrooms.corners import ga_holds


class HoldsCase(CallCase):
    def check(self, points, place, wanted):
        """The answer is the same at whichever corner the walls begin, and turned and mirrored."""
        for move, moved in ways_round(points):
            for k in range(len(points)):
                self.answer(ga_holds, (len(points), *move(*place), flat(turned(moved, k))), [wanted])

    def held(self, points, *places):
        for place in places:
            self.check(points, place, 1)

    def not_held(self, points, *places):
        for place in places:
            self.check(points, place, 0)

    def check_picture(self, points, *rows):
        """Rows of y from above; the least y and the least x are -1; what is held is marked by #."""
        for up, row in enumerate(reversed(rows)):
            for right, mark in enumerate(row):
                self.check(points, (right - 1, up - 1), {"#": 1, ".": 0}[mark])


class Pictures(HoldsCase):
    def test_all_corners_left(self):
        self.check_picture(SQUARE,
                           ".......",
                           ".#####.",
                           ".#####.",
                           ".#####.",
                           ".#####.",
                           ".#####.",
                           ".......")
        self.check_picture(TRIANGLE,
                           ".......",
                           ".#.....",
                           ".##....",
                           ".###...",
                           ".#####.",
                           ".......")

    def test_a_corner_right(self):
        self.check_picture(ANGLE,
                           ".........",
                           ".###.....",
                           ".###.....",
                           ".###.....",
                           ".###.....",
                           ".#######.",
                           ".#######.",
                           ".#######.",
                           ".........")
        self.check_picture(DART,
                           "...........",
                           ".....#.....",
                           ".....#.....",
                           ".....#.....",
                           "....###....",
                           "....###....",
                           "...#####...",
                           "...#####...",
                           "..#######..",
                           "..#######..",
                           ".#.......#.",
                           "...........")

    def test_a_bay(self):
        self.check_picture(TROUGH,
                           "............",
                           ".####..####.",
                           ".####..####.",
                           ".####..####.",
                           ".##########.",
                           ".##########.",
                           ".##########.",
                           "............")

    def test_bays_within_one_another(self):
        self.check_picture(SPIRAL,
                           ".............",
                           "...#########.",
                           "...#########.",
                           "...#########.",
                           "...###...###.",
                           "...#####.###.",
                           "...#####.###.",
                           "...#####.###.",
                           ".........###.",
                           ".###########.",
                           ".###########.",
                           ".###########.",
                           ".............")

    def test_several_corners_at_one_height(self):
        self.check_picture(CROWN,
                           "...............",
                           ".#.....#.....#.",
                           ".##...###...##.",
                           ".###.#####.###.",
                           ".#############.",
                           ".#############.",
                           ".#############.",
                           ".#############.",
                           "...............")


class OnWalls(HoldsCase):
    def test_on_a_level_wall(self):
        self.held(TROUGH, (4, 0), (1, 5), (8, 5), (5, 2))

    def test_on_an_upright_wall(self):
        self.held(TROUGH, (0, 3), (9, 1), (3, 4), (6, 3))

    def test_on_a_slanting_wall(self):
        self.held(CROWN, (1, 5), (4, 4), (8, 4), (11, 5))
        self.held([(0, 0), (9, 3), (1, 8)], (3, 1), (6, 2))

    def test_a_hair_off_a_slanting_wall(self):
        points = [(-10000, -9999), (10000, 10000), (-10000, 10000)]
        self.held(points, (0, 1), (-1, 0))
        self.not_held(points, (1, 1), (0, 0), (9999, 9999))
        # Here the wall goes through whole places between its ends.
        self.held([(-10000, -10000), (10000, 10000), (-10000, 10000)], (0, 0), (9999, 9999), (-9999, -9999))

    def test_at_each_corner(self):
        for points in (TRIANGLE, SQUARE, DART, ANGLE, TROUGH, SPIRAL, CROWN, star(8), comb(7), bowl(24)):
            self.held(points, *points)

    def test_on_the_line_of_a_wall_but_off_it(self):
        # Between walls that lie on one line, and beyond their ends.
        self.not_held(TROUGH, (4, 5), (5, 5), (-1, 5), (10, 5), (-7, 0), (11, 0), (0, 6), (9, -4), (3, 6), (6, 9))
        self.held(TROUGH, (3, 1), (6, 1), (1, 2), (8, 2))
        self.held(CROWN, (2, 2), (10, 2))
        self.not_held(CROWN, (7, 7), (-1, 7), (13, 7))


class AtTheHeightOfCorners(HoldsCase):
    def test_of_one_corner(self):
        # Peaks, pits, and corners at which the walls go on upwards, with the place on either side.
        self.not_held(TRIANGLE, (-2, 3), (3, 3))
        self.held([(0, 0), (6, 3), (0, 9), (-6, 4)], (0, 3), (0, 4), (-4, 4), (5, 3))
        self.not_held([(0, 0), (6, 3), (0, 9), (-6, 4)], (-7, 4), (7, 3), (7, 4), (-7, 3), (-3, 9), (3, 9), (-3, 0), (3, 0))

    def test_of_a_notch(self):
        self.held(DART, (2, 2), (4, 1), (6, 2))
        self.not_held(DART, (3, 0), (5, 0), (0, 1), (8, 1))

    def test_of_several_corners(self):
        self.held(CROWN, (1, 3), (5, 3), (11, 3))
        self.not_held(CROWN, (-3, 3), (15, 3), (-3, 6), (3, 6), (9, 6), (15, 6), (2, 6), (7, 6))

    def test_of_a_level_wall(self):
        self.held(SPIRAL, (9, 2), (9, 4), (3, 8), (9, 8), (3, 6))
        self.not_held(SPIRAL, (-1, 2), (11, 2), (-1, 0), (11, 0), (7, 4), (1, 4), (7, 6), (1, 8), (1, 10), (11, 10))

    def test_of_many_corners(self):
        points = saw()
        self.held(points, (1, -5), (119, -5), (12, -4), (60, 5))
        self.not_held(points, (-1, 0), (121, 0), (-1, 40), (121, 40), (12, 40), (60, -6))


class Edges(RefusesNumbers, RefusesNoRooms, HoldsCase):
    def ask(self, n, xy):
        return ga_holds(n, 0, 0, xy)

    def test_places_at_the_edge(self):
        self.held(WIDEST, (-10000, -10000), (10000, -10000), (10000, 10000), (-10000, 10000), (0, 10000), (9999, -9999))
        for points in (TRIANGLE, SPIRAL, bowl(24)):
            self.not_held(points, (-10000, -10000), (10000, -10000), (10000, 10000), (-10000, 10000),
                          (-10000, 1), (10000, 1), (1, -10000), (1, 10000))

    def test_places_beyond(self):
        places = [(far, near) for far in (-10001, 10001, LEAST, GREATEST) for near in (0, 1, -10000, 10000)]
        for points in (TRIANGLE, WIDEST, SPIRAL, bowl(24), *NO_ROOMS.values()):
            for x, y in places:
                self.answer(ga_holds, (len(points), x, y, flat(points)), [-2])
                self.answer(ga_holds, (len(points), y, x, flat(points)), [-2])
                self.answer(ga_holds, (len(points), x, x, flat(points)), [-2])

    def test_places_beyond_and_n_too(self):
        self.answer(ga_holds, (2, 10001, 0, []), [-2])
        self.answer(ga_holds, (25, 0, -10001, []), [-2])

    def test_no_room_wherever_the_place_is(self):
        for points in NO_ROOMS.values():
            for x, y in points + [(-10000, 10000), (10000, -10000), (1, 1)]:
                self.answer(ga_holds, (len(points), x, y, flat(points)), [-3])


class WhatIsHandedInAndGivenBack(HandedInAndGivenBack, HoldsCase):
    NAMES = ["n", "x", "y", "xy"]
    CASES = [((3, 1, 1, flat(TRIANGLE)), [1]), ((3, 3, 3, flat(TRIANGLE)), [0]), ((12, 3, 9, flat(SPIRAL)), [1]),
             ((12, 7, 5, flat(SPIRAL)), [0]), ((4, 1, 1, [0, 0, 4, 4, 4, 0, 0, 3]), [-3]),
             ((3, 0, 10001, flat(TRIANGLE)), [-2]), ((3, 0, 0, [0, 0, 10001, 0, 0, 1]), [-2]),
             ((2, 0, 0, []), [-2]), ((25, 0, 0, []), [-2])]

    def function(self):
        return ga_holds


class AgainstReference(HoldsCase):
    def check_all(self, points, places):
        xy = flat(points)
        found = 0
        for x, y in places:
            wanted = 1 if reference.holds(len(points), x, y, xy) else 0
            found += wanted
            self.answer(ga_holds, (len(points), x, y, xy), [wanted])
        return found

    def test_many_small_rooms(self):
        source = random.Random(3)
        places = [(x, y) for x in range(-1, 8) for y in range(-1, 8)]
        for turn in range(60):
            self.check_all(grown(source, source.randint(3, 24), 0, 6), places)

    def test_many_large_rooms(self):
        source = random.Random(4)
        found = 0
        for turn in range(40):
            points = grown(source, source.randint(3, 24), -10000, 10000)
            places = [(source.randint(-10000, 10000), source.randint(-10000, 10000)) for k in range(30)]
            places += [(source.randint(-10000, 10000), y) for x, y in points]
            found += self.check_all(points, places)
        self.assertGreater(found, 300)


if __name__ == "__main__":
    unittest.main()
