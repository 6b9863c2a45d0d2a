"""What holds for each of the calls alike, to be tested with each: what is refused, handed in and given back.

Each test case that takes this up says which call it is about.
"""

import contextlib
import inspect
import io
import unittest

import reference
from rooms import NO_ROOMS, SPIRAL, TRIANGLE, WIDEST, bowl, flat, saw, turned

LEAST, GREATEST = -2147483648, 2147483647


class CallCase(unittest.TestCase):
    def answer(self, call, handed, wanted):
        """The call answers what is wanted, as a list of whole numbers, none of them True or False."""
        given = call(*handed)
        self.assertIs(type(given), list)
        self.assertEqual([type(number) for number in given], [int] * len(given))
        self.assertEqual(given, wanted, handed)


class RefusesNumbers:
    """The subclass has ask(n, xy): the call, with whatever else it wants being so."""

    def test_n_beyond(self):
        for n in (2, 1, 0, -1, -2, -3, -24, 25, 26, 48, 1000, LEAST, LEAST + 1, GREATEST - 1, GREATEST):
            self.answer(self.ask, (n, []), [-2])

    def test_number_beyond_at_each_place(self):
        for points in (TRIANGLE, WIDEST, SPIRAL, bowl(24), [(0, 0)] * 5, *NO_ROOMS.values()):
            for place in range(2 * len(points)):
                for number in (-10001, 10001, -20000, 20000, LEAST, GREATEST):
                    xy = flat(points)
                    xy[place] = number
                    self.answer(self.ask, (len(points), xy), [-2])

    def test_all_beyond(self):
        self.answer(self.ask, (3, [LEAST, LEAST, GREATEST, LEAST, GREATEST, GREATEST]), [-2])

    def test_number_at_the_edge_at_each_place(self):
        for points in (TRIANGLE, SPIRAL, bowl(24), *NO_ROOMS.values()):
            for place in range(2 * len(points)):
                for number in (-10000, 10000):
                    xy = flat(points)
                    xy[place] = number
                    self.assertNotEqual(self.ask(len(points), xy), [-2])


class RefusesNoRooms:
    """The subclass has ask(n, xy): the call, with whatever else it wants being so."""

    def test_no_room_for_each_reason(self):
        for reason, points in NO_ROOMS.items():
            self.assertIn(reason.split()[0].strip(","), reference.reasons(len(points), flat(points)))
            for k in range(len(points)):
                self.answer(self.ask, (len(points), flat(turned(points, k))), [-3])

    def test_no_room_at_the_least_and_the_most_corners(self):
        self.answer(self.ask, (3, [0, 0, 1, 1, 2, 2]), [-3])
        self.answer(self.ask, (3, flat(TRIANGLE[::-1])), [-3])
        self.answer(self.ask, (24, flat(bowl(24)[::-1])), [-3])
        points = saw()
        points[10] = (points[10][0], -6)
        self.answer(self.ask, (24, flat(points)), [-3])

    def test_room_is_not_refused(self):
        for points in (TRIANGLE, WIDEST, SPIRAL, bowl(24), saw()):
            self.assertGreaterEqual(self.ask(len(points), flat(points))[0], 0)


class LockedList(list):
    """A list that can be read alone, and reports whoever would change it."""


def refuse(*unused):
    raise AssertionError("the list that was handed in is changed")


for name in ("append", "clear", "extend", "insert", "pop", "remove", "reverse", "sort",
             "__setitem__", "__delitem__", "__iadd__", "__imul__"):
    setattr(LockedList, name, refuse)


class HandedInAndGivenBack:
    """The subclass has function(), its parameters' names in NAMES, and CASES: what is handed in, what is answered."""

    def test_interface(self):
        parameters = inspect.signature(self.function()).parameters
        self.assertEqual(list(parameters), self.NAMES)
        self.assertEqual([p.default for p in parameters.values()], [inspect.Parameter.empty] * len(self.NAMES))
        for handed, wanted in self.CASES:
            self.assertEqual(self.function()(**dict(zip(self.NAMES, handed))), wanted)

    def test_kinds(self):
        for handed, wanted in self.CASES:
            self.answer(self.function(), handed, wanted)

    def test_list_is_as_it_was(self):
        for handed, wanted in self.CASES:
            xy = list(handed[-1])
            self.function()(*handed[:-1], xy)
            self.assertEqual(xy, handed[-1])

    def test_list_is_not_changed_for_a_while_either(self):
        for handed, wanted in self.CASES:
            self.assertEqual(self.function()(*handed[:-1], LockedList(handed[-1])), wanted)

    def test_again_as_the_first_time(self):
        for handed, wanted in self.CASES + self.CASES[::-1]:
            self.assertEqual(self.function()(*handed), wanted)
            self.assertEqual(self.function()(*handed), wanted)

    def test_what_is_given_back_is_the_callers(self):
        for handed, wanted in self.CASES:
            given = self.function()(*handed)
            self.assertIsNot(given, handed[-1])
            given.append(7)
            given[0] = 99
            self.assertEqual(self.function()(*handed), wanted)

    def test_prints_nothing(self):
        out, err = io.StringIO(), io.StringIO()
        with contextlib.redirect_stdout(out), contextlib.redirect_stderr(err):
            for handed, wanted in self.CASES:
                self.function()(*handed)
        self.assertEqual(out.getvalue() + err.getvalue(), "")
