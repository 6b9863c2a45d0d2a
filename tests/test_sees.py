"""ga_sees (point 2): what a corner sees, what walls hide, ways that only touch; the edges; what is refused."""

import random
import unittest

import reference
from calls import GREATEST, LEAST, CallCase, HandedInAndGivenBack, RefusesNoRooms, RefusesNumbers
from rooms import (ANGLE, CROWN, DART, NO_ROOMS, SPIRAL, SQUARE, TRIANGLE, TROUGH, WIDEST, bowl, comb, flat, grown,
                   saw, star, turned, ways_round)
from watchedrooms.corners import ga_holds, ga_sees

# A corner stands at the height of both notches.
NOTCHED = [(0, 0), (12, 0), (14, 3), (12, 6), (9, 3), (6, 6), (3, 3), (0, 6)]
# A spike from below and one from above come just to the height of its outermost corners.
SPIKED = [(0, 0), (5, 0), (8, 3), (11, 0), (14, 3), (12, 6), (7, 6), (4, 3), (1, 6), (0, 3)]
# A bay that is widest, corner to corner, at the height of the corner (11, 5).
BULGED = [(0, 0), (10, 0), (11, 5), (10, 10), (6, 10), (7, 5), (5, 2), (3, 5), (4, 10), (0, 10)]


class SeesCase(CallCase):
    def check(self, points, eye, place, wanted):
        """The answer is the same wherever the walls begin, and turned and mirrored."""
        for move, moved in ways_round(points):
            for k in range(0, len(points), 1 + len(points) // 8):
                begun = turned(moved, k)
                i = begun.index(move(*eye))
                self.answer(ga_sees, (len(points), i, *move(*place), flat(begun)), [wanted])

    def sees(self, points, eye, *places):
        for place in places:
            self.check(points, eye, place, 1)

    def hidden(self, points, eye, *places):
        """The room holds the places: it's the walls that hide them."""
        for place in places:
            self.assertEqual(ga_holds(len(points), *place, flat(points)), [1])
            self.check(points, eye, place, 0)

    def not_held(self, points, eye, *places):
        for place in places:
            self.assertEqual(ga_holds(len(points), *place, flat(points)), [0])
            self.check(points, eye, place, 0)

    def check_picture(self, points, eye, *rows):
        """Rows of y from above; the least y and the least x are -1; # is seen, o is hidden, . isn't held."""
        for up, row in enumerate(reversed(rows)):
            for right, mark in enumerate(row):
                ask = {"#": self.sees, "o": self.hidden, ".": self.not_held}[mark]
                ask(points, eye, (right - 1, up - 1))


class Pictures(SeesCase):
    def test_all_corners_left(self):
        for eye in SQUARE:
            self.check_picture(SQUARE, eye,
                               ".......",
                               ".#####.",
                               ".#####.",
                               ".#####.",
                               ".#####.",
                               ".#####.",
                               ".......")

    def test_past_a_corner_right(self):
        self.check_picture(ANGLE, (6, 0),
                           ".........",
                           ".ooo.....",
                           ".ooo.....",
                           ".ooo.....",
                           ".#oo.....",
                           ".#######.",
                           ".#######.",
                           ".#######.",
                           ".........")

    def test_from_a_corner_right(self):
        self.check_picture(ANGLE, (2, 2),
                           ".........",
                           ".###.....",
                           ".###.....",
                           ".###.....",
                           ".###.....",
                           ".#######.",
                           ".#######.",
                           ".#######.",
                           ".........")
        self.check_picture(TROUGH, (6, 2),
                           "............",
                           ".oooo..####.",
                           ".oooo..####.",
                           ".oooo..####.",
                           ".##########.",
                           ".##########.",
                           ".##########.",
                           "............")

    def test_into_a_bay(self):
        self.check_picture(TROUGH, (9, 5),
                           "............",
                           ".oooo..####.",
                           ".oooo..####.",
                           ".oooo..####.",
                           ".oooooo####.",
                           ".ooooo#####.",
                           ".oooo######.",
                           "............")

    def test_round_several_corners(self):
        self.check_picture(SPIRAL, (0, 0),
                           ".............",
                           "...ooooooooo.",
                           "...ooooooooo.",
                           "...ooooooooo.",
                           "...ooo...ooo.",
                           "...ooooo.ooo.",
                           "...ooooo.ooo.",
                           "...ooooo.ooo.",
                           ".........ooo.",
                           ".###########.",
                           ".###########.",
                           ".###########.",
                           ".............")


class Ordinary(SeesCase):
    def test_not_held(self):
        self.not_held(TRIANGLE, (0, 0), (3, 3), (5, 0), (-1, 0), (-1, -1))
        self.not_held(DART, (4, 9), (4, 0), (0, 1))
        self.not_held(DART, (0, 0), (3, 0), (8, 2))

    def test_held_and_not_hidden(self):
        self.sees(DART, (0, 0), (4, 1), (4, 2), (7, 2), (4, 9))
        self.sees(CROWN, (0, 0), (6, 6), (5, 4), (12, 0), (12, 3), (1, 5))

    def test_hidden(self):
        self.hidden(DART, (0, 0), (8, 0), (7, 1))
        self.hidden(CROWN, (0, 6), (12, 6), (6, 6), (5, 5), (11, 4), (9, 3), (4, 3))
        self.hidden(comb(2), (15, 40), (5, 40), (5, 39))

    def test_hidden_behind_a_wall_held_on_either_side(self):
        self.hidden(SPIRAL, (10, 0), (2, 4), (3, 9), (6, 4), (4, 8))
        self.hidden(SPIRAL, (10, 10), (6, 4), (6, 6), (4, 6), (3, 5), (0, 0))


class WaysThatOnlyTouch(SeesCase):
    def test_along_a_wall(self):
        self.sees(TROUGH, (0, 0), (1, 0), (8, 0), (9, 0), (0, 1), (0, 5))
        self.sees(TROUGH, (3, 2), (4, 2), (6, 2), (3, 4), (3, 5))
        self.sees(CROWN, (9, 3), (8, 4), (6, 6), (11, 5))

    def test_along_a_wall_and_on_into_the_room(self):
        self.sees(TROUGH, (6, 2), (2, 2), (0, 2))
        self.sees(TROUGH, (3, 5), (3, 1), (3, 0))
        self.sees(CROWN, (6, 6), (2, 2), (1, 1), (0, 0), (12, 0))

    def test_along_a_wall_and_on_out_of_the_room(self):
        self.not_held(TROUGH, (0, 5), (4, 5), (5, 5), (10, 5))
        self.not_held(SQUARE, (0, 0), (5, 0), (0, 5))
        self.not_held(CROWN, (3, 3), (7, 7))

    def test_along_a_wall_and_out_and_into_the_room_again(self):
        self.hidden(TROUGH, (0, 5), (6, 5), (7, 5), (9, 5))
        self.hidden(TROUGH, (9, 5), (3, 5), (1, 5), (0, 5))

    def test_past_a_corner_that_turns_right(self):
        self.sees(ANGLE, (6, 0), (2, 2), (0, 3))
        self.sees(ANGLE, (0, 6), (2, 2), (3, 0))
        self.sees(NOTCHED, (14, 3), (9, 3), (7, 3))
        # A little higher at the far end, and the corner hides it.
        self.hidden(ANGLE, (6, 0), (0, 4), (1, 3))

    def test_through_two_corners_on_one_side(self):
        self.sees(NOTCHED, (14, 3), (4, 3), (3, 3), (2, 3), (0, 3))
        self.hidden(NOTCHED, (14, 3), (0, 4), (5, 4), (1, 4))

    def test_through_two_corners_on_either_side(self):
        self.sees(SPIKED, (14, 3), (9, 3), (8, 3), (6, 3), (4, 3), (2, 3), (0, 3))
        self.sees(SPIKED, (0, 3), (4, 3), (6, 3), (8, 3), (10, 3), (14, 3))
        self.hidden(SPIKED, (14, 3), (0, 2), (0, 1), (1, 4))

    def test_two_corners_on_either_side_that_leave_no_way(self):
        longer = [(8, 4) if place == (8, 3) else place for place in SPIKED]
        self.hidden(longer, (14, 3), (0, 3), (6, 3), (4, 3))
        self.sees(longer, (14, 3), (9, 3))

    def test_into_a_corner(self):
        self.sees(NOTCHED, (14, 3), (9, 3), (12, 0), (12, 6), (0, 0))
        self.sees(SPIKED, (0, 3), (1, 6), (5, 0), (4, 3))
        self.sees(BULGED, (11, 5), (7, 5), (6, 10), (5, 2))

    def test_out_and_in_again_through_corners(self):
        # No wall is gone through: the way leaves at one corner of the bay and comes back at the other.
        self.hidden(BULGED, (11, 5), (3, 5), (2, 5), (0, 5))
        self.not_held(BULGED, (11, 5), (6, 5), (5, 5), (4, 5))

    def test_out_at_once(self):
        # From a corner across a bay to its other side.
        self.hidden(TROUGH, (6, 2), (3, 5), (3, 4))
        self.hidden(TROUGH, (6, 5), (3, 5), (3, 3), (1, 5))
        self.hidden(BULGED, (7, 5), (3, 5), (1, 5))
        self.hidden(DART, (8, 0), (0, 0))


class PlacesThatAreNotWhole(SeesCase):
    def notched(self, depth):
        """A notch from above, its tip at x = 5, over which the way from (0, 0) to (10, 1) goes at the height 1/2."""
        return [(0, 0), (0, -5), (10, -5), (10, 10), (6, 10), (5, depth), (4, 10)]

    def test_out_for_a_short_piece_without_a_whole_place(self):
        self.hidden(self.notched(0), (0, 0), (10, 1))
        self.hidden(self.notched(-4), (0, 0), (10, 1))
        self.sees(self.notched(0), (0, 0), (10, 0), (10, -1), (5, 0))
        self.sees(self.notched(1), (0, 0), (10, 1), (10, 2), (5, 1))

    def test_out_for_the_shortest_pieces(self):
        # The tip of a notch comes a 20000th below the way, or ends a 20000th above it.
        for tip, ask in (((-1, -5001), self.hidden), ((1, -5000), self.sees)):
            points = [(-10000, -10000), (10000, -10000), (10000, 10000), (2, 10000), tip, (-2, 10000), (-10000, 10000)]
            ask(points, (-10000, -10000), (10000, -1))
            self.sees(points, (-10000, -10000), (10000, -2), tip)
            self.hidden(points, (-10000, -10000), (10000, 2))

    def test_into_a_wall_between_whole_places(self):
        # The way's end is at a wall; the place behind the wall is not held.
        points = [(0, 0), (9, -4), (7, 8)]
        self.not_held(points, (0, 0), (9, 1), (10, 3))
        self.sees(points, (0, 0), (8, 1), (7, 3))

    def test_through_both_walls_of_a_bay(self):
        self.hidden(CROWN, (12, 6), (0, 5), (5, 5), (7, 5), (0, 6), (6, 6))
        self.hidden(saw(), (0, -5), (100, 39))


class Corners(SeesCase):
    ROOMS = (TRIANGLE, SQUARE, DART, ANGLE, TROUGH, SPIRAL, CROWN, NOTCHED, SPIKED, BULGED, star(8), comb(7), bowl(24),
             saw())

    def test_itself(self):
        for points in self.ROOMS:
            for place in points:
                self.sees(points, place, place)

    def test_neighbours(self):
        for points in self.ROOMS:
            for i, place in enumerate(points):
                self.sees(points, place, points[i - 1], points[(i + 1) % len(points)])

    def test_each_other_corner_where_all_turn_left(self):
        for points in (TRIANGLE, SQUARE, bowl(9)):
            for place in points:
                self.sees(points, place, *points)

    def test_each_other_corner(self):
        seen = ("111111", "111100", "111100", "111111", "100111", "100111")
        for eye, marks in zip(ANGLE, seen):
            for place, mark in zip(ANGLE, marks):
                self.check(ANGLE, eye, place, int(mark))

    def test_one_sees_the_other_if_the_other_sees_it(self):
        for points in self.ROOMS:
            n, xy = len(points), flat(points)
            for i in range(n):
                for k in range(i):
                    self.assertEqual(ga_sees(n, i, *points[k], xy), ga_sees(n, k, *points[i], xy), (points, i, k))

    def test_each_other_corner_against_reference(self):
        for points in self.ROOMS:
            n, xy = len(points), flat(points)
            for i in range(n):
                for x, y in points:
                    self.answer(ga_sees, (n, i, x, y, xy), [int(reference.sees(n, i, x, y, xy))])


class Edges(RefusesNumbers, RefusesNoRooms, SeesCase):
    def ask(self, n, xy):
        return ga_sees(n, 0, 0, 0, xy)

    def test_i_at_the_edge(self):
        self.answer(ga_sees, (6, 0, 6, 2, flat(ANGLE)), [1])
        self.answer(ga_sees, (6, 5, 6, 2, flat(ANGLE)), [0])
        self.answer(ga_sees, (3, 2, 4, 0, flat(TRIANGLE)), [1])
        self.answer(ga_sees, (24, 23, 0, 0, flat(bowl(24))), [1])
        self.answer(ga_sees, (24, 23, 0, 1, flat(bowl(24))), [0])

    def test_i_beyond(self):
        for points in (TRIANGLE, ANGLE, SPIRAL, WIDEST, bowl(24), *NO_ROOMS.values()):
            n = len(points)
            for i in (-1, n, -2, n + 1, -n, 2 * n, 24, LEAST, GREATEST):
                self.answer(ga_sees, (n, i, *points[0], flat(points)), [-2])

    def test_i_beyond_and_n_too(self):
        for n in (2, 0, -1, 25, LEAST, GREATEST):
            for i in (-1, 0, 1, n - 1, n):
                self.answer(ga_sees, (n, i, 0, 0, []), [-2])

    def test_places_at_the_edge(self):
        for eye in WIDEST:
            self.sees(WIDEST, eye, (-10000, -10000), (10000, -10000), (10000, 10000), (-10000, 10000), (0, 10000))
        for points in (TRIANGLE, SPIRAL, bowl(24)):
            self.not_held(points, points[0], (-10000, -10000), (10000, 10000), (-10000, 1), (10000, 1), (1, -10000))

    def test_places_beyond(self):
        places = [(far, near) for far in (-10001, 10001, LEAST, GREATEST) for near in (0, 1, -10000, 10000)]
        for points in (TRIANGLE, WIDEST, SPIRAL, bowl(24), *NO_ROOMS.values()):
            for x, y in places:
                self.answer(ga_sees, (len(points), 0, x, y, flat(points)), [-2])
                self.answer(ga_sees, (len(points), 1, y, x, flat(points)), [-2])
                self.answer(ga_sees, (len(points), 2, x, x, flat(points)), [-2])

    def test_no_room_whatever_is_asked_of_it(self):
        for points in NO_ROOMS.values():
            for i in range(len(points)):
                for x, y in points + [(-10000, 10000), (10000, -10000)]:
                    self.answer(ga_sees, (len(points), i, x, y, flat(points)), [-3])


class WhatIsHandedInAndGivenBack(HandedInAndGivenBack, SeesCase):
    NAMES = ["n", "i", "x", "y", "xy"]
    CASES = [((3, 0, 1, 1, flat(TRIANGLE)), [1]), ((3, 1, 3, 3, flat(TRIANGLE)), [0]),
             ((12, 3, 3, 9, flat(SPIRAL)), [1]), ((12, 0, 3, 9, flat(SPIRAL)), [0]), ((6, 1, 0, 3, flat(ANGLE)), [1]),
             ((4, 1, 1, 1, [0, 0, 4, 4, 4, 0, 0, 3]), [-3]), ((3, 0, 0, 10001, flat(TRIANGLE)), [-2]),
             ((3, 3, 0, 0, flat(TRIANGLE)), [-2]), ((3, 0, 0, 0, [0, 0, 10001, 0, 0, 1]), [-2]),
             ((2, 0, 0, 0, []), [-2]), ((25, 0, 0, 0, []), [-2])]

    def function(self):
        return ga_sees


class AgainstReference(SeesCase):
    def check_some(self, source, points, places):
        n, xy = len(points), flat(points)
        found = 0
        for x, y in places:
            i = source.randrange(n)
            wanted = int(reference.sees(n, i, x, y, xy))
            found += wanted
            self.answer(ga_sees, (n, i, x, y, xy), [wanted])
        return found

    def test_many_small_rooms(self):
        source = random.Random(5)
        found = 0
        for turn in range(120):
            points = grown(source, source.randint(3, 24), 0, source.randint(3, 7))
            places = [(source.randint(0, 7), source.randint(0, 7)) for k in range(40)]
            found += self.check_some(source, points, places)
        self.assertGreater(found, 600)

    def test_many_large_rooms(self):
        source = random.Random(6)
        found = 0
        for turn in range(40):
            points = grown(source, source.randint(3, 24), -10000, 10000)
            places = [(source.randint(-10000, 10000), source.randint(-10000, 10000)) for k in range(20)]
            found += self.check_some(source, points, places + points)
        self.assertGreater(found, 300)


if __name__ == "__main__":
    unittest.main()
