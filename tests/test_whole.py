"""What holds over all six calls: kinds, refusals and their order, what is handed in, and that each call is by itself."""

import ast
import importlib.util
import pathlib
import random
import subprocess
import sys
import unittest

import watchedrooms
from calls import GREATEST, LEAST, CallCase, LockedList
from rooms import (ANGLE, CROWN, DART, NO_ROOMS, SPIRAL, SQUARE, TRIANGLE, TROUGH, WIDEST, bowl, flat, grown, prongs,
                   saw)
from watchedrooms import corners

# What each call wants besides n and xy, ahead of xy.
BETWEEN = {"ga_room": [], "ga_holds": ["x", "y"], "ga_sees": ["i", "x", "y"], "ga_cut": [], "ga_three": [],
           "ga_watch": []}
ROOMS = (TRIANGLE, SQUARE, DART, ANGLE, TROUGH, SPIRAL, CROWN, WIDEST, bowl(24), saw(), prongs(8))


def handed_to(name, n, xy, so):
    """What the call is handed: i, x and y, where it wants them, are taken from so."""
    return (n, *[so[wanted] for wanted in BETWEEN[name]], xy)


def some_calls():
    """Names of calls and what they are handed: rooms, what is none, and what isn't so."""
    source = random.Random(16)
    chosen = [(len(points), flat(points)) for points in (*ROOMS, *NO_ROOMS.values())]
    chosen += [(len(points), flat(points)) for points in (grown(source, 16, 0, 6) for turn in range(10))]
    chosen += [(3, [0, 0, 10001, 0, 0, 1]), (3, [0, 0, 1, 1, 0, -10001]), (2, []), (25, []), (LEAST, []), (GREATEST, [])]
    for n, xy in chosen:
        for name in BETWEEN:
            so = {"i": source.randint(0, 3), "x": source.randint(-1, 7), "y": source.randint(-1, 7)}
            yield name, handed_to(name, n, xy, so)
    for wrong in ({"i": -1}, {"i": 3}, {"x": 10001}, {"y": -10001}):
        for name in ("ga_holds", "ga_sees"):
            yield name, handed_to(name, 3, flat(TRIANGLE), {"i": 0, "x": 1, "y": 1, **wrong})


CALLS = list(some_calls())


def ask(name, handed):
    return getattr(corners, name)(*handed)


class Kinds(CallCase):
    def test_interface(self):
        for name, between in BETWEEN.items():
            code = getattr(watchedrooms.corners, name).__code__
            self.assertEqual(list(code.co_varnames[:code.co_argcount]), ["n", *between, "xy"])

    def test_lists_of_whole_numbers(self):
        for name, handed in CALLS:
            self.answer(getattr(corners, name), handed, ask(name, handed))

    def test_how_many_numbers(self):
        for points in ROOMS:
            n = len(points)
            counts = {"ga_room": 1, "ga_holds": 1, "ga_sees": 1, "ga_cut": 1 + 3 * (n - 2), "ga_three": 1 + n,
                      "ga_watch": 2}
            for name, count in counts.items():
                given = ask(name, handed_to(name, n, flat(points), {"i": 0, "x": 0, "y": 0}))
                self.assertEqual(len(given), count, name)

    def test_whole_numbers_in_their_range(self):
        for name, handed in CALLS:
            for number in ask(name, handed):
                self.assertTrue(LEAST <= number <= GREATEST)


class Refusals(CallCase):
    def check_all(self, n, xy, so, wanted, wanted_of_room):
        for name in BETWEEN:
            self.answer(getattr(corners, name), handed_to(name, n, xy, so),
                        wanted_of_room if name == "ga_room" else wanted)

    def test_n(self):
        for n in (2, 1, 0, -1, 25, 26, LEAST, GREATEST):
            self.check_all(n, [], {"i": 0, "x": 0, "y": 0}, [-2], [-2])

    def test_numbers_before_no_room(self):
        for points in NO_ROOMS.values():
            for number in (-10001, 10001):
                xy = flat(points)
                xy[-1] = number
                self.check_all(len(points), xy, {"i": 0, "x": 0, "y": 0}, [-2], [-2])

    def test_no_room(self):
        for points in NO_ROOMS.values():
            self.check_all(len(points), flat(points), {"i": 0, "x": 0, "y": 0}, [-3], [0])

    def test_what_else_is_handed_in_before_no_room(self):
        for points in (*ROOMS, *NO_ROOMS.values()):
            n, xy = len(points), flat(points)
            for x, y in ((-10001, 0), (10001, 0), (0, -10001), (0, 10001)):
                self.answer(corners.ga_holds, (n, x, y, xy), [-2])
                self.answer(corners.ga_sees, (n, 0, x, y, xy), [-2])
            for i in (-1, n):
                self.answer(corners.ga_sees, (n, i, 0, 0, xy), [-2])


class EachCallByItself(CallCase):
    def test_list_is_as_it_was(self):
        for name, handed in CALLS:
            xy = list(handed[-1])
            ask(name, (*handed[:-1], xy))
            self.assertEqual(xy, handed[-1])

    def test_list_is_not_changed_for_a_while_either(self):
        for name, handed in CALLS:
            self.assertEqual(ask(name, (*handed[:-1], LockedList(handed[-1]))), ask(name, handed))

    def test_one_list_for_many_calls(self):
        for points in ROOMS:
            n, xy = len(points), flat(points)
            for name in [*BETWEEN, *reversed(BETWEEN)]:
                first = ask(name, handed_to(name, n, flat(points), {"i": 1, "x": 1, "y": 2}))
                self.assertEqual(ask(name, handed_to(name, n, xy, {"i": 1, "x": 1, "y": 2})), first)
            self.assertEqual(xy, flat(points))

    def test_second_call_answers_as_the_first(self):
        for name, handed in CALLS:
            self.assertEqual(ask(name, handed), ask(name, handed))

    def test_other_calls_between(self):
        source = random.Random(17)
        first = [ask(name, handed) for name, handed in CALLS]
        order = 2 * list(range(len(CALLS)))
        source.shuffle(order)
        for k in order:
            # What was given back belongs to the caller, who may change it.
            given = ask(*CALLS[k])
            self.assertEqual(given, first[k])
            given.clear()

    def test_as_if_for_the_first_time(self):
        for name, handed in CALLS:
            ask(name, handed)
        for name, handed in CALLS:
            spec = importlib.util.spec_from_file_location("fresh", corners.__file__)
            fresh = importlib.util.module_from_spec(spec)
            spec.loader.exec_module(fresh)
            self.assertEqual(ask(name, handed), getattr(fresh, name)(*handed))

    def test_module_keeps_nothing(self):
        before = {name: repr(value) for name, value in vars(corners).items()}
        for name, handed in CALLS:
            ask(name, handed)
        self.assertEqual({name: repr(value) for name, value in vars(corners).items()}, before)


class PrintsReadsAndImportsNothing(CallCase):
    def test_imports_nothing(self):
        for path in pathlib.Path(watchedrooms.__file__).parent.glob("*.py"):
            tree = ast.parse(path.read_text())
            self.assertEqual([node for node in ast.walk(tree) if isinstance(node, (ast.Import, ast.ImportFrom))], [])

    def test_prints_and_reads_nothing(self):
        program = ("from watchedrooms.corners import *\n"
                   "xy = [0, 0, 6, 0, 6, 2, 2, 2, 2, 6, 0, 6]\n"
                   "ga_room(6, xy), ga_holds(6, 1, 1, xy), ga_sees(6, 0, 1, 1, xy), ga_cut(6, xy), ga_three(6, xy)\n"
                   "ga_watch(6, xy), ga_watch(2, []), ga_watch(3, [0, 0, 1, 1, 2, 2])\n")
        ran = subprocess.run([sys.executable, "-c", program], stdin=subprocess.DEVNULL, capture_output=True,
                             cwd=pathlib.Path(watchedrooms.__file__).parent.parent)
        self.assertEqual((ran.returncode, ran.stdout, ran.stderr), (0, b"", b""))


if __name__ == "__main__":
    unittest.main()
