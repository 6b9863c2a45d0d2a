"""ga_watch (point 5): how many corners watch, and their mask; the edges; what is refused."""

import random
import unittest

from calls import CallCase, HandedInAndGivenBack, RefusesNoRooms, RefusesNumbers
from rooms import (ANGLE, CROWN, DART, SPIRAL, SQUARE, TRIANGLE, TROUGH, WIDEST, bowl, comb, flat, grown, prongs, saw,
                   star, turned)
from watchedrooms.corners import ga_holds, ga_sees, ga_three, ga_watch


def colours_of(points):
    return ga_three(len(points), flat(points))[1:]


def fewest_of(points):
    """The colours that the fewest corners have."""
    colours = colours_of(points)
    counts = [colours.count(colour) for colour in (0, 1, 2)]
    return [colour for colour in (0, 1, 2) if counts[colour] == min(counts)]


def watchers(points):
    mask = ga_watch(len(points), flat(points))[1]
    return [i for i in range(len(points)) if mask >> i & 1]


class WatchCase(CallCase):
    def check(self, points):
        """The answer is that of ga_three's colours, and never more than a third of n."""
        n = len(points)
        least = fewest_of(points)[0]
        watching = [i for i, colour in enumerate(colours_of(points)) if colour == least]
        self.answer(ga_watch, (n, flat(points)), [len(watching), sum(2 ** i for i in watching)])
        self.assertLessEqual(3 * ga_watch(n, flat(points))[0], n)
        self.assertGreaterEqual(ga_watch(n, flat(points))[0], 1)

    def check_each_begin(self, points):
        for k in range(len(points)):
            self.check(turned(points, k))


class Ordinary(WatchCase):
    def test_few_corners(self):
        self.answer(ga_watch, (3, flat(TRIANGLE)), [1, 1])
        self.answer(ga_watch, (4, flat(SQUARE)), [1, 2])
        self.answer(ga_watch, (4, flat(DART)), [1, 2])
        self.answer(ga_watch, (4, flat(turned(DART, 1))), [1, 1])
        self.answer(ga_watch, (6, flat(ANGLE)), [2, 17])

    def test_few_corners_each_begin(self):
        for points in (TRIANGLE, SQUARE, DART, ANGLE):
            self.check_each_begin(points)

    def test_many_corners(self):
        for points in (TROUGH, SPIRAL, CROWN, star(8), comb(3), comb(7), saw(), prongs(8)):
            self.check_each_begin(points)

    def test_many_corners_all_left(self):
        for n in range(5, 25):
            self.answer(ga_watch, (n, flat(bowl(n))), [1, 2 ** (n - 1)])

    def test_many_small_rooms(self):
        source = random.Random(12)
        for turn in range(150):
            points = grown(source, source.randint(3, 24), 0, source.randint(3, 7))
            self.check(turned(points, source.randrange(len(points))))

    def test_many_large_rooms(self):
        source = random.Random(13)
        for turn in range(60):
            points = grown(source, source.randint(3, 24), -10000, 10000)
            self.check(turned(points, source.randrange(len(points))))


class WhichColour(WatchCase):
    def check_fewest(self, points, fewest, wanted):
        self.assertEqual(fewest_of(points), fewest)
        self.answer(ga_watch, (len(points), flat(points)), wanted)

    def test_one_has_the_fewest(self):
        # Begun at the corner that all triangles have, at the one behind it, and at the one ahead of it.
        fan = [(0, 9), (-9, 0), (-1, 1), (1, 1), (9, 0)]
        self.check_fewest(turned(fan, 0), [0], [1, 1])
        self.check_fewest(turned(fan, 4), [1], [1, 2])
        self.check_fewest(turned(fan, 1), [2], [1, 16])

    def test_two_have_the_fewest_alike(self):
        self.check_fewest(SQUARE, [1, 2], [1, 2])
        self.check_fewest(turned(DART, 1), [0, 2], [1, 1])
        self.check_fewest(turned(prongs(2) + [(-9, 450)], 3), [0, 1], [2, 9])

    def test_all_have_alike(self):
        self.check_fewest(TRIANGLE, [0, 1, 2], [1, 1])
        self.check_fewest(ANGLE, [0, 1, 2], [2, 17])
        for k in range(1, 9):
            self.assertEqual(fewest_of(prongs(k)), [0, 1, 2])
            self.check_each_begin(prongs(k))

    def test_each_choice_comes_about(self):
        source = random.Random(14)
        met = []
        for turn in range(200):
            points = grown(source, source.randint(3, 12), 0, 9)
            points = turned(points, source.randrange(len(points)))
            self.check(points)
            met.append(tuple(fewest_of(points)))
        self.assertEqual(sorted(set(met)), [(0,), (0, 1), (0, 1, 2), (0, 2), (1,), (1, 2), (2,)])


class AThird(WatchCase):
    def test_some_rooms_want_that_many(self):
        for k in range(1, 9):
            self.assertEqual(ga_watch(3 * k, flat(prongs(k)))[0], k)

    def test_all_of_the_room_is_seen(self):
        source = random.Random(15)
        rooms = [grown(source, source.randint(3, 24), 0, 6) for turn in range(25)]
        for points in rooms + [ANGLE, TROUGH, SPIRAL, CROWN, DART]:
            n, xy = len(points), flat(points)
            for x in range(13):
                for y in range(11):
                    seen = any(ga_sees(n, i, x, y, xy) == [1] for i in watchers(points))
                    self.assertEqual([int(seen)], ga_holds(n, x, y, xy), (points, x, y))


class Edges(RefusesNumbers, RefusesNoRooms, WatchCase):
    def ask(self, n, xy):
        return ga_watch(n, xy)

    def test_fewest_corners(self):
        for k in range(3):
            self.answer(ga_watch, (3, flat(turned(TRIANGLE, k))), [1, 1])

    def test_most_corners(self):
        self.answer(ga_watch, (24, flat(bowl(24))), [1, 8388608])
        for points in (bowl(24), saw(), prongs(8)):
            self.check_each_begin(points)

    def test_most_corners_with_the_last_among_several(self):
        found = [k for k in range(24) if 23 in watchers(turned(saw(), k))]
        self.assertNotEqual(found, [])
        for k in found:
            self.assertGreater(len(watchers(turned(saw(), k))), 1)
            self.check(turned(saw(), k))

    def test_widest(self):
        self.answer(ga_watch, (4, flat(WIDEST)), [1, 2])


class WhatIsHandedInAndGivenBack(HandedInAndGivenBack, WatchCase):
    NAMES = ["n", "xy"]
    CASES = [((3, flat(TRIANGLE)), [1, 1]), ((4, flat(SQUARE)), [1, 2]), ((6, flat(ANGLE)), [2, 17]),
             ((4, [0, 0, 4, 4, 4, 0, 0, 4]), [-3]), ((3, [0, 0, 1, 1, 2, 2]), [-3]),
             ((3, [0, 0, 10001, 0, 0, 1]), [-2]), ((2, []), [-2]), ((25, []), [-2])]

    def function(self):
        return ga_watch


if __name__ == "__main__":
    unittest.main()
