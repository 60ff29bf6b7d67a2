"""Layouts compared: points 14 and 15, and the interface of sharedlines/compare.py."""

import unittest

from sharedlines.compare import causes, helpers, lead, parting_run, together
from sharedlines.errors import BadRun, OtherCells, TooManyStates
from sharedlines.layouts import Layout, own
from sharedlines.steps import reached
from tests import oracle
from tests.cases import (
    APART, BY_HAND, MANY, ONE, OWN, SHORT, THOUSAND, THOUSAND_AND_ONE, THOUSAND_AND_ONE_PAIRS, THOUSAND_PAIRS,
    TOGETHER, XY, YZ, parsed, random_cases, random_rings, random_run)
from tests.test_steps import NO_RUNS, THREADS
from tests.values import any_values

# Two layouts, threads, the number of steps of parting runs, and the leads of each one over the other one.
COMPARED = [
    (TOGETHER, APART, ["write x -> 1\nwrite x", "write y"], 3, 1, 0),
    (TOGETHER, TOGETHER, ["write x -> 0 1\nread y", "write y"], None, 0, 0),
    (TOGETHER, APART, ["read x", "write x"], None, 0, 0),
    # Reading both cells costs less together, by one move for each thread.
    (TOGETHER, APART, ["read x -> 1\nread y"], 2, 0, 1),
    (TOGETHER, APART, ["read x -> 1\nread y", "read y -> 1\nread x", "read x"], 2, 0, 2),
    (TOGETHER, APART, ["write x -> 1\nwrite y"], 2, 0, 1),
    (TOGETHER, APART, ["write x -> 0 end", "write y -> 0 end"], 3, None, 0),
    # One who writes both cells is spared moves again and again, as another one takes both.
    (TOGETHER, APART, ["write x -> 1\nwrite y -> 0", "write x -> 1\nwrite y -> 0"], 2, None, None),
    (TOGETHER, APART, ["read x -> 1\nread y -> 0", "write x -> 1\nwrite y -> 0"], 2, None, None),
    (XY, YZ, ["read y -> 1\nread x"], 2, 0, 1),
    (XY, YZ, ["read y -> 1 2\nread x\nread z"], 2, 1, 1),
    (ONE, OWN, ["read x -> 1\nread y -> 2\nread z"], 2, 0, 2),
    (ONE, XY, ["write z -> 0", "read x -> 1\nread x"], 3, 3, 0),
]


class Compared(unittest.TestCase):
    def test_by_hand(self):
        for first, second, texts, length, ahead, back in COMPARED:
            with self.subTest(texts, first=first.lines):
                threads = parsed(*texts)
                for one, two in ((first, second), (second, first)):
                    run = parting_run(one, two, threads)
                    self.assertEqual(None if run is None else len(run), length)
                self.assertEqual([lead(first, second, threads), lead(second, first, threads)], [ahead, back])

    def test_as_the_point_tells(self):
        leads = set()
        for first, second, threads in random_cases(31, 60) + random_cases(32, 30, 4, 2):
            apart = own(first.cells())
            for one, two in ((first, second), (second, first), (first, apart), (apart, first)):
                leads.add(lead(one, two, threads))
                self.assertEqual(lead(one, two, threads), oracle.lead(one, two, threads))
                self.check_parting_run(one, two, threads, oracle.parting_length(one, two, threads))
        self.assertGreaterEqual(leads, {None, 0, 1, 2})

    def check_parting_run(self, first, second, threads, length):
        run = parting_run(first, second, threads)
        if length is None:
            self.assertIsNone(run)
            return
        self.assertIs(type(run), list)
        self.assertTrue(all(type(step) is tuple and len(step) == 2 for step in run))
        moves, _ = oracle.follow(first, threads, run)
        others, _ = oracle.follow(second, threads, run)
        self.assertEqual(len(run), length)
        self.assertEqual(moves[:-1], others[:-1])
        self.assertNotEqual(moves[-1], others[-1])

    def test_room_does_not_matter(self):
        wide = Layout({"x": 1, "y": 1}, 32, [["x"], ["y"]])
        self.assertIsNone(parting_run(wide, APART, THREADS))
        self.assertEqual([lead(wide, APART, THREADS), lead(TOGETHER, wide, THREADS)], [0, 1])

    def test_only_integers_and_none(self):
        self.assertEqual([type(lead(TOGETHER, APART, THREADS)), type(lead(APART, TOGETHER, THREADS))], [int, int])


class OtherCellsAndManyStates(unittest.TestCase):
    def test_other_cells(self):
        others = [
            Layout({"x": 1}, 1, [["x"]]), Layout({"x": 1, "z": 1}, 2, [["x", "z"]]),
            Layout({"x": 1, "y": 2}, 3, [["x", "y"]]), Layout({"x": 2, "y": 1}, 3, [["x", "y"]]),
            Layout(SHORT, 3, [["x", "y", "z"]]),
        ]
        for other in others:
            for threads in (THREADS, parsed("read w"), MANY):
                for function in (parting_run, lead):
                    self.assertRaises(OtherCells, function, TOGETHER, other, threads)
                    self.assertRaises(OtherCells, function, other, TOGETHER, threads)

    def test_order_of_cells_does_not_matter(self):
        turned = Layout({"y": 1, "x": 1}, 2, [["y", "x"]])
        self.assertIsNone(parting_run(TOGETHER, turned, THREADS))
        self.assertEqual(lead(TOGETHER, turned, THREADS), 0)

    def test_just_1000_pairs(self):
        self.assertEqual(len(oracle.pair_table(XY, YZ, THOUSAND_PAIRS)), 1000)
        for first, second in ((XY, YZ), (YZ, XY)):
            self.check_thousand(first, second, THOUSAND_PAIRS)
        for layout, threads in THOUSAND:
            self.assertEqual(lead(layout, layout, threads), 0)
            self.assertIsNone(parting_run(layout, layout, threads))
        self.check_thousand(TOGETHER, APART, THOUSAND[0][1])
        self.check_thousand(APART, TOGETHER, THOUSAND[0][1])

    def check_thousand(self, first, second, threads):
        run = parting_run(first, second, threads)
        length = oracle.parting_length(first, second, threads)
        self.assertEqual(None if run is None else len(run), length)
        self.assertEqual(lead(first, second, threads), oracle.lead(first, second, threads))

    def test_more_than_1000_pairs_of_fewer_states(self):
        self.assertEqual(len(oracle.pair_table(XY, YZ, THOUSAND_AND_ONE_PAIRS)), 1001)
        for layout in (XY, YZ):
            self.assertLess(len(reached(layout, THOUSAND_AND_ONE_PAIRS)), 300)
        for function in (parting_run, lead):
            self.assertRaises(TooManyStates, function, XY, YZ, THOUSAND_AND_ONE_PAIRS)
            self.assertRaises(TooManyStates, function, YZ, XY, THOUSAND_AND_ONE_PAIRS)

    def test_more_than_1000_states(self):
        for layout, threads in THOUSAND_AND_ONE + [(XY, MANY)]:
            for function in (parting_run, lead):
                self.assertRaises(TooManyStates, function, layout, layout, threads)
                self.assertRaises(TooManyStates, function, layout, ONE, threads)
                self.assertRaises(TooManyStates, function, YZ, layout, threads)


# Layout, threads, run, and what is told: the causes, together, the helpers.
TOLD = [
    (TOGETHER, ["write x -> 1\nwrite x", "write y"], [(0, 1), (1, None), (0, None)],
     [None, None, 1], (1, 0), [None, None, None]),
    (APART, ["write x -> 1\nwrite x", "write y"], [(0, 1), (1, None), (0, None)],
     [None, None, None], (0, 0), [None, None, None]),
    (TOGETHER, ["write x -> 1\nwrite x", "write y"], [], [], (0, 0), []),
    (TOGETHER, ["write x -> 1\nwrite x", "write y"], [(1, None), (0, 1)], [None, None], (0, 0), [None, None]),
    # A read is taken away by the first write, not by reads or by later writes.
    (TOGETHER, ["read x -> 1\nread x", "read x -> 1\nwrite y -> 2\nwrite x", "write x"],
     [(0, 1), (1, 1), (1, 2), (2, None), (1, None), (0, None)],
     [None, None, None, None, 3, 2], (0, 0), [None, None, None, None, None, None]),
    # What one owns is taken away by a read, too, and for a write it is the first step.
    (TOGETHER, ["write x -> 1\nwrite x", "read x", "write x"], [(0, 1), (1, None), (2, None), (0, None)],
     [None, None, None, 1], (0, 0), [None, None, None, None]),
    # Who read only, or was not alone any more, did not own: no cause.
    (TOGETHER, ["read x -> 1\nwrite x", "write x"], [(0, 1), (1, None), (0, None)],
     [None, None, None], (0, 0), [None, None, None]),
    (TOGETHER, ["write x -> 1\nread x -> 2\nwrite x", "read x"], [(0, 1), (1, None), (0, 2), (0, None)],
     [None, None, None, None], (0, 0), [None, None, None, None]),
    # Reading what one owns leaves it owned; the cause comes behind the last step, not the first.
    (TOGETHER, ["write x -> 1\nread x -> 2\nwrite x", "read y"], [(0, 1), (0, 2), (1, None), (0, None)],
     [None, None, None, 2], (1, 0), [None, None, None, None]),
    (TOGETHER, ["write x -> 1\nwrite x -> 2\nwrite x", "write x -> 1\nwrite x"],
     [(0, 1), (1, 1), (0, 2), (1, None), (0, None)],
     [None, None, 1, 2, 3], (0, 0), [None, None, None, None, None]),
    # The last earlier step of this thread on the line may be on another cell.
    (TOGETHER, ["write y -> 1\nread x", "write x"], [(0, 1), (1, None), (0, None)],
     [None, None, 1], (0, 0), [None, None, None]),
    # Steps on other lines do not count.
    (XY, ["read x -> 1\nwrite z -> 2\nread y", "write z -> 1\nwrite y"], [(0, 1), (1, 1), (0, 2), (1, None), (0, None)],
     [None, None, None, None, 3], (0, 0), [None, None, None, None, None]),
    (XY, ["write x -> 1\nwrite z -> 2\nwrite x", "write z"], [(0, 1), (0, 2), (1, None), (0, None)],
     [None, None, None, None], (0, 0), [None, None, None, None]),
    # Saved moves and who helped: any step for a read, a write for a write, on another cell.
    (TOGETHER, ["read x -> 1\nread y"], [(0, 1), (0, None)], [None, None], (0, 1), [None, 0]),
    (TOGETHER, ["write x -> 1\nread x -> 2\nwrite y"], [(0, 1), (0, 2), (0, None)],
     [None, None, None], (0, 1), [None, None, 0]),
    (ONE, ["write x -> 1\nread y -> 2\nwrite z -> 3\nread z -> 4\nwrite y"],
     [(0, 1), (0, 2), (0, 3), (0, 4), (0, None)],
     [None, None, None, None, None], (0, 3), [None, 0, 0, None, 2]),
    (ONE, ["write x -> 1\nwrite y -> 2\nread y -> 3\nread z"], [(0, 1), (0, 2), (0, 3), (0, None)],
     [None, None, None, None], (0, 2), [None, 0, None, 2]),
    (ONE, ["write x -> 1\nread y -> 2\nwrite y"], [(0, 1), (0, 2), (0, None)],
     [None, None, None], (0, 2), [None, 0, 0]),
    # The steps of other threads do not help.
    (TOGETHER, ["read x -> 1\nread y", "read x"], [(0, 1), (1, None), (0, None)],
     [None, None, None], (0, 1), [None, None, 0]),
    # A move that is owed and another one that is saved.
    (TOGETHER, ["write x -> 1\nwrite y -> 2\nwrite x", "read y"], [(0, 1), (0, 2), (1, None), (0, None)],
     [None, None, None, 2], (1, 1), [None, 0, None, None]),
]


class Told(unittest.TestCase):
    def test_by_hand(self):
        for layout, texts, run, cause, both, helper in TOLD:
            with self.subTest(texts, run=run):
                threads = parsed(*texts)
                self.assertEqual(causes(layout, threads, run), cause)
                self.assertEqual(together(layout, threads, run), both)
                self.assertEqual(helpers(layout, threads, run), helper)

    def test_kinds(self):
        run = [(0, 1), (1, None), (0, None)]
        self.assertEqual([type(causes(TOGETHER, THREADS, run)), type(helpers(TOGETHER, THREADS, run))], [list, list])
        self.assertEqual([type(part) for part in together(TOGETHER, THREADS, run)], [int, int])
        self.assertIs(type(together(TOGETHER, THREADS, run)), tuple)

    def test_as_the_point_tells(self):
        cases = [(layout, threads) for layout, threads in BY_HAND] + random_rings(33, 40)
        cases += [(layout, threads) for layout, _, threads in random_cases(34, 80, 5)]
        told = set()
        for seed, (layout, threads) in enumerate(cases):
            run = random_run(seed, threads, 40)
            apart = own(layout.cells())
            moves, others = oracle.follow(layout, threads, run)[0], oracle.follow(apart, threads, run)[0]
            owed = sum(one > two for one, two in zip(moves, others))
            saved = sum(one < two for one, two in zip(moves, others))
            self.assertEqual(together(layout, threads, run), (owed, saved))
            self.assertEqual(causes(layout, threads, run), oracle.causes(layout, threads, run))
            self.assertEqual(helpers(layout, threads, run), oracle.helpers(layout, apart, threads, run))
            told.add((owed > 0, saved > 0))
        self.assertEqual(len(told), 4)

    def test_no_runs(self):
        for number, (run, index) in enumerate(NO_RUNS + [(value, 0) for value in any_values() if value != []]):
            for function in (together, causes, helpers):
                for layout in (TOGETHER, APART):
                    with self.subTest(number, function=function.__name__):
                        with self.assertRaises(BadRun) as caught:
                            function(layout, THREADS, run)
                        self.assertEqual(caught.exception.index, index)

    def test_where_more_than_1000_states_can_be_reached(self):
        run = [(0, 1), (1, 0), (0, None)]
        self.assertEqual(together(XY, MANY, run), (0, 0))
        self.assertEqual(causes(XY, MANY, run), [None, None, 1])
        self.assertEqual(helpers(XY, MANY, [(0, 1), (0, 0)]), [None, 0])

    def test_long_runs(self):
        threads = parsed("write x -> 1\nwrite y -> 0", "read y -> 0")
        run = [(0, 1), (0, 0), (1, 0)] * 4000
        self.assertEqual(together(TOGETHER, threads, run), (3999, 4000))
        self.assertEqual(causes(TOGETHER, threads, run)[:6], [None, None, None, 2, None, 3])
        self.assertEqual(helpers(TOGETHER, threads, run)[-3:], [None, 11997, None])


if __name__ == "__main__":
    unittest.main()
