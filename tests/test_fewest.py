"""Few lines: point 16, and the interface of sharedlines/fewest.py."""

import time
import unittest
from fractions import Fraction

from sharedlines.errors import BadCells, BadRoom, NoLayout, TooManyStates, UnknownCell
from sharedlines.fewest import calmest, fewest_lines, shortfalls
from sharedlines.layouts import Layout, all_layouts
from sharedlines.steps import reached
from tests import oracle
from tests.cases import MANY, ONE, OWN, SHORT, THOUSAND, THOUSAND_AND_ONE, XY, parsed, random_cases
from tests.values import any_values

XY_CELLS = {"x": 1, "y": 1}
SIX = {name: 1 for name in "uvwxyz"}
THREADS = parsed("write x -> 1\nwrite x", "write y")
RINGS = parsed("write x -> 0 end", "write y -> 0 end")

# Threads that use all of six cells, with many states on each of the 203 layouts.
SIX_THREADS = [
    parsed("read w -> 0 2 end\nwrite u -> 0 1 2\nread v -> 1 2 end", "read u -> 0 2\nread x -> 1\nread z -> 2",
           "write w -> 0 2 3\nread y -> 2\nread u -> 1\nread w -> 0 1 3"),
    parsed("write y -> 1\nwrite y -> 2\nwrite v -> 3\nwrite v -> 4\nwrite x -> 5\nread z -> 6\nwrite v -> 7\n"
           "write y -> 0", "read y -> 1\nread y -> 2\nwrite w -> 3\nwrite w -> 0",
           "read y -> 0 end\nwrite w -> 2\nwrite w -> 3\nwrite u -> 4\nwrite v -> 0"),
    parsed("write x -> 1\nread y -> 2\nwrite z -> 3\nread u -> 4\nwrite v -> 5\nwrite w -> 6\nread x -> 7\nwrite y",
           "read w -> 1\nwrite v -> 2\nread u -> 3\nwrite z -> 4\nread y -> 5\nwrite x -> 6\nread w -> 7\nwrite v"),
]

# Threads with more than 1,000 states if just x and y lie together, but not if each cell has a line of its own.
MANY_TOGETHER = parsed("write y -> 0 2\nread y -> 0 3 end\nread z -> 1 3\nwrite y",
                       "write x -> 1\nread x -> 2 end\nwrite z -> 0 end", "read y -> 0 1\nread x -> end")


def sizes_at_random():
    """Cells with sizes, rooms and threads: (cells, room, threads)."""
    found = []
    for number, (first, _, threads) in enumerate(random_cases(51, 60)):
        cells = {name: 1 + (number + place) % 3 for place, name in enumerate(first.cells())}
        found.append((cells, 1 + number % 7, threads))
    return found


def lines_and_rests(cells, room, threads, most=60):
    """For each layout a tuple of its lines, its greatest number and its greatest share.

    The share is told only where fewer than so many states can be reached.
    """
    found = []
    for lines in oracle.all_lines(cells, room):
        layout = Layout(cells, room, [list(line) for line in lines])
        steps = oracle.table(layout, threads)
        first = oracle.at_start(layout, threads)
        share = oracle.share(steps, first) if len(steps) < most else "long"
        found.append((lines, oracle.rests(steps)[first], share))
    return found


class Fewest(unittest.TestCase):
    def test_example(self):
        found = fewest_lines(XY_CELLS, 2, THREADS, 2)
        self.assertIs(type(found), Layout)
        self.assertEqual(found, Layout(XY_CELLS, 2, [["x"], ["y"]]))
        self.assertEqual(fewest_lines(XY_CELLS, 2, THREADS, 3), Layout(XY_CELLS, 2, [["x", "y"]]))

    def test_bounds_of_0_and_100(self):
        # Each thread begins with a move.
        self.assertRaises(NoLayout, fewest_lines, XY_CELLS, 2, parsed("read x"), 0)
        self.assertEqual(fewest_lines(XY_CELLS, 2, parsed("read x"), 1).lines, (("x", "y"),))
        self.assertEqual(fewest_lines(XY_CELLS, 2, THREADS, 100).lines, (("x", "y"),))
        # Without a greatest number, no bound is kept.
        self.assertEqual(fewest_lines(XY_CELLS, 2, RINGS, 100).lines, (("x",), ("y",)))
        self.assertRaises(NoLayout, fewest_lines, XY_CELLS, 2, parsed("write x -> 0", "write x -> 0"), 100)

    def test_just_the_bound(self):
        for most in (2, 3, 4):
            threads = parsed("write x -> 1\nread y -> 2\nwrite z -> 3\nread x")
            found = [layout for layout in all_layouts(SHORT, 3)
                     if oracle.rests(oracle.table(layout, threads))[oracle.at_start(layout, threads)] <= most]
            if found:
                self.assertEqual(len(fewest_lines(SHORT, 3, threads, most).lines), len(found[0].lines))
            else:
                self.assertRaises(NoLayout, fewest_lines, SHORT, 3, threads, most)

    def test_room_of_the_layout(self):
        found = fewest_lines({"x": 2, "y": 3}, 7, parsed("read x"), 9)
        self.assertEqual([found.room, found.cells(), found.lines], [7, {"x": 2, "y": 3}, (("x", "y"),)])
        found = fewest_lines({"x": 2, "y": 3}, 4, parsed("read x"), 9)
        self.assertEqual([found.room, found.lines], [4, (("x",), ("y",))])

    def test_rooms_that_are_too_small(self):
        for threads in (THREADS, RINGS):
            self.assertRaises(NoLayout, fewest_lines, {"x": 1, "y": 2}, 1, threads, 100)
            self.assertEqual(shortfalls({"x": 1, "y": 2}, 1, threads, 100, 7), [])
            self.assertRaises(NoLayout, calmest, {"x": 1, "y": 2}, 1, threads)

    def test_as_the_points_tell(self):
        kept = 0
        for cells, room, threads in sizes_at_random():
            told = lines_and_rests(cells, room, threads)
            for bound in (0, 1, 2, 3, 4, 6, 100):
                able = [lines for lines, most, _ in told if most is not None and most <= bound]
                if not able:
                    self.assertRaises(NoLayout, fewest_lines, cells, room, threads, bound)
                    continue
                kept += 1
                found = fewest_lines(cells, room, threads, bound)
                self.assertIn(found.lines, able)
                self.assertEqual(len(found.lines), len(able[0]))
                self.assertEqual([found.room, found.cells()], [room, cells])
        self.assertGreater(kept, 60)


class Shortfalls(unittest.TestCase):
    def check(self, cells, room, threads, bound, many):
        found = shortfalls(cells, room, threads, bound, many)
        able = [most is not None and most <= bound for lines, most, _ in lines_and_rests(cells, room, threads)
                if len(lines) < many]
        if any(able):
            self.assertIsNone(found)
            return 0
        self.assertIs(type(found), list)
        self.assertEqual([layout.lines for layout, _ in found],
                         [lines for lines in oracle.all_lines(cells, room) if len(lines) < many])
        for pair in found:
            self.assertIs(type(pair), tuple)
            layout, run = pair
            self.assertEqual([layout.room, layout.cells(), type(run)], [room, cells, list])
            self.assertTrue(all(type(step) is tuple and len(step) == 2 for step in run))
            self.assertGreater(sum(oracle.follow(layout, threads, run)[0]), bound)
        return len(found)

    def test_example(self):
        self.assertEqual(self.check(XY_CELLS, 2, THREADS, 2, 2), 1)

    def test_by_hand(self):
        self.assertEqual(shortfalls(XY_CELLS, 2, THREADS, 2, 1), [])
        self.assertIsNone(shortfalls(XY_CELLS, 2, THREADS, 2, 3))
        self.assertIsNone(shortfalls(XY_CELLS, 2, THREADS, 3, 2))
        self.assertEqual(self.check(XY_CELLS, 2, THREADS, 1, 9), 2)
        self.assertEqual(self.check(XY_CELLS, 2, RINGS, 100, 2), 1)
        self.assertIsNone(shortfalls(XY_CELLS, 2, RINGS, 100, 3))
        self.assertEqual(self.check(SHORT, 3, parsed("write x -> 0", "write x -> 0", "read y"), 100, 9), 5)
        self.assertEqual(self.check(XY_CELLS, 2, parsed("read x -> 0"), 0, 9), 2)

    def test_as_the_points_tell(self):
        some = 0
        for cells, room, threads in sizes_at_random()[:40]:
            for bound in (0, 1, 2, 3, 5, 100):
                for many in (1, 2, 3, 5):
                    some += self.check(cells, room, threads, bound, many) > 1
        self.assertGreater(some, 60)

    def test_runs_are_new_lists(self):
        # These layouts differ in cells that no thread uses, so the same run will do for all.
        found = shortfalls(SHORT, 3, parsed("write x -> 0", "write x -> 0"), 5, 9)
        self.assertEqual(len({id(run) for _, run in found}), 5)
        found[0][1].clear()
        self.assertTrue(all(run for _, run in found[1:]))
        self.assertTrue(all(run for _, run in shortfalls(SHORT, 3, parsed("write x -> 0", "write x -> 0"), 5, 9)))

    def test_fewer_lines_do_not_do(self):
        """No layout with fewer lines keeps the bound: point 2."""
        for cells, room, threads in sizes_at_random():
            for bound in (1, 3, 5):
                try:
                    found = fewest_lines(cells, room, threads, bound)
                except NoLayout:
                    self.assertIsNotNone(shortfalls(cells, room, threads, bound, 9))
                    continue
                self.assertIsNotNone(shortfalls(cells, room, threads, bound, len(found.lines)))
                self.assertIsNone(shortfalls(cells, room, threads, bound, len(found.lines) + 1))


class Calmest(unittest.TestCase):
    def test_by_hand(self):
        layout, share = calmest(XY_CELLS, 2, RINGS)
        self.assertEqual([layout.lines, share], [(("x",), ("y",)), (0, 1)])
        layout, share = calmest(XY_CELLS, 1, RINGS)
        self.assertEqual([layout.lines, layout.room, share], [(("x",), ("y",)), 1, (0, 1)])
        layout, share = calmest({"x": 1}, 1, parsed("write x -> 0", "write x -> 0"))
        self.assertEqual([layout.lines, share], [(("x",),), (1, 1)])

    def test_shares_are_compared_as_fractions(self):
        # As pairs, (3, 4) is less than (4, 7), and (3, 5) is less than (4, 11).
        for texts, shares, least in (
            (["read y -> 1\nwrite x -> 2\nread x -> 3\nwrite z -> 4\nwrite y -> 0", "write y -> 0"],
             [(3, 4), (8, 9), (4, 7), (4, 7)], (4, 7)),
            (["read y -> 1\nwrite z -> 2\nwrite z -> 0", "write z -> 1\nwrite x -> 2\nwrite x -> 3\nread x -> 0"],
             [(5, 11), (3, 5), (14, 17), (4, 11)], (4, 11)),
        ):
            self.check(2, texts, shares, least)

    def check(self, room, texts, shares, least):
        told = lines_and_rests(SHORT, room, parsed(*texts), 150)
        self.assertEqual([share for _, _, share in told], shares)
        layout, share = calmest(SHORT, room, parsed(*texts))
        self.assertEqual(share, least)
        self.assertIn((layout.lines, None, share), told)

    def test_lying_together_can_be_calmer(self):
        self.check(3, ["write x -> 1\nwrite y -> 2\nread z -> 0",
                       "write z -> 1\nread z -> 2\nread y -> 3\nwrite y -> 4\nwrite x -> 5\nread x -> 0"],
                   [(1, 1), (11, 12), (6, 7), (1, 1), (8, 9)], (6, 7))
        self.check(3, ["write z -> 1\nread x -> 2\nwrite z -> 3\nread x -> 4\nwrite z -> 0",
                       "read z -> 1\nwrite x -> 2\nread z -> 0"],
                   [(10, 11), (18, 19), (18, 19), (10, 11), (18, 19)], (10, 11))

    def test_without_loops(self):
        found = calmest(XY_CELLS, 2, THREADS)
        self.assertIs(type(found), tuple)
        self.assertIs(type(found[0]), Layout)
        self.assertIsNone(found[1])

    def test_as_the_points_tell(self):
        shares = set()
        small = [(case[0].cells(), 3, case[2]) for case in random_cases(52, 30, 2, 2)]
        for cells, room, threads in sizes_at_random() + small:
            told = lines_and_rests(cells, room, threads)
            if not told:
                self.assertRaises(NoLayout, calmest, cells, room, threads)
                continue
            layout, share = calmest(cells, room, threads)
            self.assertEqual([layout.room, layout.cells()], [room, cells])
            by_lines = {lines: other for lines, _, other in told}
            self.assertIn(layout.lines, by_lines)
            if "long" in by_lines.values():
                continue
            shares.add(share)
            self.assertEqual(by_lines[layout.lines], share)
            if share is None:
                self.assertEqual(set(by_lines.values()), {None})
            else:
                self.assertEqual(Fraction(*share), min(Fraction(*other) for other in by_lines.values()))
        self.assertGreaterEqual(shares, {None, (0, 1), (1, 1)})


class Errors(unittest.TestCase):
    def all_of(self, cells, room, threads):
        return [(fewest_lines, (cells, room, threads, 2)), (shortfalls, (cells, room, threads, 2, 2)),
                (calmest, (cells, room, threads))]

    def check(self, error, cells, room, threads):
        for function, given in self.all_of(cells, room, threads):
            self.assertRaises(error, function, *given)

    def test_bad_cells_come_first(self):
        for value in any_values() + [{"x": 0}, {"x": 9}, {"x": True}, {"X": 1}, {name: 1 for name in "tuvwxyz"}]:
            if value != {"x": 1}:
                self.check(BadCells, value, 2, THREADS)
                self.check(BadCells, value, 0, parsed("read q"))

    def test_bad_room_comes_second(self):
        for value in any_values():
            self.check(BadRoom, XY_CELLS, value, parsed("read q"))
        self.check(BadRoom, XY_CELLS, 33, THREADS)
        self.check(BadRoom, XY_CELLS, True, THREADS)

    def test_unknown_cells_come_third(self):
        for threads, cell in ((parsed("read x", "read q -> 0", "read r"), "q"), (parsed("read z"), "z"),
                              (parsed("read x -> 1\nread r", "read q"), "r"), ([*MANY[:2], *parsed("read q")], "q")):
            for cells, room in ((XY_CELLS, 2), (XY_CELLS, 1), ({"x": 1, "y": 2}, 1), ({"y": 8, "x": 1}, 7)):
                for function, given in self.all_of(cells, room, threads):
                    with self.assertRaises(UnknownCell) as caught:
                        function(*given)
                    self.assertEqual(caught.exception.cell, cell)

    def test_too_many_states_come_ahead_of_all_answers(self):
        self.check(TooManyStates, SHORT, 3, MANY)
        self.check(TooManyStates, SHORT, 1, MANY)
        for function in (fewest_lines, shortfalls):
            for bound in (0, 100):
                self.assertRaises(TooManyStates, function, SHORT, 3, MANY, bound, *([1] if function is shortfalls else []))

    def test_one_layout_with_too_many_states_is_enough(self):
        threads = THOUSAND_AND_ONE[0][1]
        self.assertLess(len(oracle.table(ONE, threads)), 1001)
        self.check(TooManyStates, SHORT, 3, threads)
        self.assertRaises(TooManyStates, fewest_lines, SHORT, 3, threads, 100)
        for many in (1, 2, 3, 4):
            self.assertRaises(TooManyStates, shortfalls, SHORT, 3, threads, 100, many)
        # Without room for the others there is only the layout that has too many.
        self.check(TooManyStates, SHORT, 1, threads)

    def test_layouts_that_do_not_have_the_room_do_not_count(self):
        self.assertGreater(len(oracle.table(XY, MANY_TOGETHER)), 1000)
        self.assertLess(len(oracle.table(OWN, MANY_TOGETHER)), 1000)
        self.check(TooManyStates, SHORT, 2, MANY_TOGETHER)
        self.assertRaises(NoLayout, fewest_lines, SHORT, 1, MANY_TOGETHER, 1)
        self.assertEqual(len(shortfalls(SHORT, 1, MANY_TOGETHER, 1, 9)), 1)
        self.assertEqual(calmest(SHORT, 1, MANY_TOGETHER)[0].lines, OWN.lines)

    def test_just_1000_states(self):
        layout, threads = THOUSAND[0]
        self.assertEqual(len(reached(layout, threads)), 1000)
        self.assertEqual(fewest_lines(XY_CELLS, 2, threads, 100).lines, (("x", "y"),))
        self.assertEqual(shortfalls(XY_CELLS, 2, threads, 100, 1), [])
        self.assertEqual(calmest(XY_CELLS, 2, threads)[1], (0, 1))


class Times(unittest.TestCase):
    def test_six_cells_within_a_few_seconds(self):
        for threads in SIX_THREADS:
            for function, given in ((fewest_lines, [0]), (shortfalls, [100, 7]), (calmest, [])):
                begin = time.process_time()
                if function is fewest_lines:
                    self.assertRaises(NoLayout, function, SIX, 6, threads, *given)
                else:
                    function(SIX, 6, threads, *given)
                with self.subTest(function.__name__):
                    self.assertLess(time.process_time() - begin, 8)

    def test_cells_that_no_thread_uses(self):
        for layout, threads in THOUSAND[1:]:
            begin = time.process_time()
            self.assertRaises((NoLayout, TooManyStates), fewest_lines, SIX, 6, threads, 0)
            self.assertLess(time.process_time() - begin, 4)
        self.assertEqual(len(shortfalls(SIX, 6, parsed("read x"), 0, 7)), 203)
        self.assertEqual(len(shortfalls(SIX, 2, RINGS, 1, 5)), len(oracle.all_lines(SIX, 2)) - 1 - 15)
        self.assertEqual(calmest(OWN.cells(), 3, parsed("read x -> 0"))[1], (0, 1))


if __name__ == "__main__":
    unittest.main()
