"""ga_room held against the reference, over all of some small inputs and many larger ones."""

import itertools
import random
import unittest

import reference
from watchedrooms.corners import ga_room


class AgainstReference(unittest.TestCase):
    def check(self, n, xy):
        self.assertEqual(ga_room(n, list(xy)), [1 if reference.is_room(n, xy) else 0], xy)

    def check_all(self, n, points):
        for chosen in itertools.product(points, repeat=n):
            self.check(n, [number for point in chosen for number in point])

    def test_all_triangles_of_a_small_grid(self):
        self.check_all(3, [(x, y) for x in range(4) for y in range(4)])

    def test_all_of_four_corners_of_a_small_grid(self):
        self.check_all(4, [(x, y) for x in range(3) for y in range(3)])

    def test_all_of_five_corners_of_a_smaller_grid(self):
        self.check_all(5, [(x, y) for x in range(3) for y in range(2)])

    def test_many_of_few_corners(self):
        source = random.Random(1)
        for turn in range(4000):
            n = source.randint(4, 7)
            self.check(n, [source.randint(-3, 3) for k in range(2 * n)])

    def test_many_about_a_middle(self):
        """Rooms, and what was one before a corner or two were moved."""
        source = random.Random(2)
        around = [(9, 0), (9, 4), (7, 7), (4, 9), (0, 9), (-4, 9), (-7, 7), (-9, 4),
                  (-9, 0), (-9, -4), (-7, -7), (-4, -9), (0, -9), (4, -9), (7, -7), (9, -4)]
        rooms = 0
        for turn in range(1500):
            n = source.randint(6, 16)
            rays = sorted(source.sample(range(16), n))
            xy = [number * far for ray in rays for far in [source.randint(1, 9)] for number in around[ray]]
            for moved in range(source.randint(0, 2)):
                xy[source.randrange(2 * n)] = source.randint(-80, 80)
            self.check(n, xy)
            rooms += reference.is_room(n, xy)
        self.assertGreater(rooms, 300)
        self.assertLess(rooms, 1200)


if __name__ == "__main__":
    unittest.main()
