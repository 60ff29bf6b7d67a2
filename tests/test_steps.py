"""States, steps, runs and kinds of nodes: points 6 to 9 and 12, and the interface of sharedlines/steps.py."""

import unittest

from sharedlines.errors import BadRun, BadState, TooManyStates
from sharedlines.steps import moves_of, node_kinds, reached, start, steps_from
from tests import oracle
from tests.cases import (
    APART, BY_HAND, MANY, OWN, THOUSAND, THOUSAND_AND_ONE, TOGETHER, XY, parsed, random_cases, random_run)
from tests.values import any_values, nested, nested_dict

THREADS = parsed("write x -> 1\nwrite x", "write y")
FREE = ((), False)

# What happens to a line by one step of thread 1, by point 7: word, line ahead, moves, line behind.
TOUCHES = [
    ("read", FREE, 1, ((1,), False)),
    ("read", ((1,), False), 0, ((1,), False)),
    ("read", ((1,), True), 0, ((1,), True)),
    ("read", ((0,), False), 1, ((0, 1), False)),
    ("read", ((0,), True), 1, ((0, 1), False)),
    ("read", ((2,), True), 1, ((1, 2), False)),
    ("read", ((0, 1), False), 0, ((0, 1), False)),
    ("read", ((0, 2), False), 1, ((0, 1, 2), False)),
    ("read", ((0, 1, 2), False), 0, ((0, 1, 2), False)),
    ("write", FREE, 1, ((1,), True)),
    ("write", ((1,), False), 1, ((1,), True)),
    ("write", ((1,), True), 0, ((1,), True)),
    ("write", ((0,), False), 1, ((1,), True)),
    ("write", ((0,), True), 1, ((1,), True)),
    ("write", ((0, 1), False), 1, ((1,), True)),
    ("write", ((0, 2), False), 1, ((1,), True)),
    ("write", ((0, 1, 2), False), 1, ((1,), True)),
]

# States by point 6 for THREADS on APART, whether they can be reached or not.
STATES = [
    ((0, 0), (FREE, FREE)),
    ((1, 0), (((0,), True), FREE)),
    ((None, None), (FREE, FREE)),
    ((None, 0), (((0, 1), False), ((1,), False))),
    ((0, None), (((1,), True), ((0,), True))),
    ((1, None), (FREE, ((0, 1), False))),
]

# Values that are no states for THREADS on APART.
NO_STATES = [
    # No pair.
    ((0, 0),), ((0, 0), (FREE, FREE), ()), [(0, 0), (FREE, FREE)], {(0, 0): (FREE, FREE)}, "ab",
    # Places of another kind, of a wrong length, or at wrong nodes.
    ([0, 0], (FREE, FREE)), (None, (FREE, FREE)), (0, (FREE, FREE)), ("00", (FREE, FREE)), ({0: 0, 1: 0}, (FREE, FREE)),
    ((), (FREE, FREE)), ((0,), (FREE, FREE)), ((0, 0, 0), (FREE, FREE)),
    ((2, 0), (FREE, FREE)), ((-1, 0), (FREE, FREE)), ((0, 1), (FREE, FREE)), ((10 ** 5000, 0), (FREE, FREE)),
    ((True, 0), (FREE, FREE)), ((0, False), (FREE, FREE)), (("0", 0), (FREE, FREE)), ((0, "end"), (FREE, FREE)),
    ((0, []), (FREE, FREE)), (((0,), 0), (FREE, FREE)), ((0, nested(48)), (FREE, FREE)),
    # Lines of another kind or of a wrong length.
    ((0, 0), [FREE, FREE]), ((0, 0), None), ((0, 0), 2), ((0, 0), "ab"), ((0, 0), {0: FREE, 1: FREE}),
    ((0, 0), ()), ((0, 0), (FREE,)), ((0, 0), (FREE, FREE, FREE)),
    # A line that is no pair.
    ((0, 0), (FREE, ())), ((0, 0), (FREE, ((),))), ((0, 0), (FREE, ((), False, False))), ((0, 0), (FREE, [(), False])),
    ((0, 0), (None, FREE)), ((0, 0), (FREE, 0)), ((0, 0), (FREE, "ab")), ((0, 0), ({}, FREE)),
    # Holders that are none.
    ((0, 0), (FREE, ([], False))), ((0, 0), (FREE, ([0], False))), ((0, 0), (FREE, ({}, False))),
    ((0, 0), (FREE, (None, False))), ((0, 0), (FREE, (0, True))), ((0, 0), (FREE, ("", False))),
    ((0, 0), (FREE, ((2,), False))), ((0, 0), (FREE, ((-1,), False))), ((0, 0), (FREE, ((0, 2), False))),
    ((0, 0), (FREE, ((1, 0), False))), ((0, 0), (FREE, ((0, 0), False))), ((0, 0), (FREE, ((0, 1, 1), False))),
    ((0, 0), (FREE, ((True,), False))), ((0, 0), (FREE, ((False,), True))), ((0, 0), (FREE, ((False, 1), False))),
    ((0, 0), (FREE, ((None,), False))), ((0, 0), (FREE, (("0",), False))), ((0, 0), (FREE, (((0,),), False))),
    ((0, 0), (FREE, (([],), False))), ((0, 0), (FREE, (({}, {}), False))),
    # Owned without just one holder, or by no boolean.
    ((0, 0), (FREE, ((), True))), ((0, 0), (FREE, ((0, 1), True))), ((0, 0), (((0, 1), True), FREE)),
    ((0, 0), (FREE, ((0,), 1))), ((0, 0), (FREE, ((0,), 0))), ((0, 0), (FREE, ((), 0))), ((0, 0), (FREE, ((), None))),
    ((0, 0), (FREE, ((0,), None))), ((0, 0), (FREE, ((0,), "True"))), ((0, 0), (FREE, ((0,), []))),
    ((0, 0), (FREE, ((0,), (True,)))),
    nested(50), nested_dict(50), (nested(49), nested(49)), ((0, 0), (FREE, nested(47))),
    ((0, 0), (FREE, ((0,), nested(46)))),
]

# Runs of THREADS and the index of the first thing in them that is no step there.
NO_RUNS = [
    (None, 0), (0, 0), (True, 0), ("", 0), ((), 0), (((0, 1),), 0), ({}, 0), ({(0, 1): 0}, 0), (((0, 1), (1, None)), 0),
    ([None], 0), ([0], 0), (["ab"], 0), ([[]], 0), ([()], 0), ([(0,)], 0), ([(0, 1, 1)], 0),
    ([[0, 1]], 0), ([{0: 1}], 0),
    ([(2, None)], 0), ([(-1, None)], 0), ([(10 ** 5000, None)], 0), ([(None, None)], 0), ([("0", 1)], 0),
    ([(True, None)], 0), ([(False, 1)], 0), ([([], 1)], 0), ([({}, 1)], 0), ([((0,), 1)], 0), ([(nested(48), 1)], 0),
    ([(0, 0)], 0), ([(0, 2)], 0), ([(0, -1)], 0), ([(0, None)], 0), ([(0, "1")], 0), ([(0, "end")], 0),
    ([(0, True)], 0), ([(0, False)], 0),
    ([(0, [1])], 0), ([(0, (1,))], 0), ([(0, {})], 0), ([(0, nested(48))], 0), ([(0, 10 ** 5000)], 0),
    ([(1, 0)], 0), ([(1, False)], 0), ([(1, 1)], 0),
    ([(0, 1), (0, 1)], 1), ([(0, 1), (0, True)], 1), ([(0, 1), (0, None), (0, None)], 2),
    ([(0, 1), (0, None), (0, 1)], 2),
    ([(1, None), (1, None)], 1), ([(1, None), (0, 1), (1, None), (0, None)], 2),
    ([(0, 1), (1, None), (0, None), (0, None)], 3), ([(0, 1), (1, None), (0, None), None], 3),
    ([(0, 1), (1, None), (0, None), (1, None), 7], 3), ([(0, 1), [1, None], (0, 7)], 1), ([(0, 1), nested(49)], 1),
    ([(0, 1), (0, 0), None], 1), (nested(50), 0), (nested_dict(50), 0),
]


class Start(unittest.TestCase):
    def test_all_threads_stand_at_node_0_and_no_line_has_a_holder(self):
        self.assertEqual(start(TOGETHER, THREADS), ((0, 0), (FREE,)))
        self.assertEqual(start(OWN, parsed("read x")), ((0,), (FREE, FREE, FREE)))
        self.assertEqual(start(APART, THREADS + THREADS[:1]), ((0, 0, 0), (FREE, FREE)))

    def test_kinds(self):
        places, lines = start(TOGETHER, THREADS)
        self.assertEqual([type(places), type(places[0]), type(lines), type(lines[0])], [tuple, int, tuple, tuple])
        self.assertEqual([type(part) for part in lines[0]], [tuple, bool])


class Steps(unittest.TestCase):
    def test_example(self):
        found = steps_from(TOGETHER, THREADS, start(TOGETHER, THREADS))
        self.assertEqual(found[1], (1, None, 1, ((0, None), (((1,), True),))))
        self.assertEqual(found[0], (0, 1, 1, ((1, 0), (((0,), True),))))
        self.assertEqual(len(found), 2)

    def test_what_a_step_does_to_its_line(self):
        for word, before, moves, behind in TOUCHES:
            with self.subTest(word, before=before):
                threads = parsed("read z", word + " x", "read z")
                found = steps_from(OWN, threads, ((0, 0, 0), (before, FREE, ((2,), True))))
                step = [step for step in found if step[0] == 1]
                self.assertEqual(step, [(1, None, moves, ((0, None, 0), (behind, FREE, ((2,), True))))])
                self.assertIs(type(step[0][2]), int)
                self.assertIs(type(step[0][3][1][0][1]), bool)

    def test_cells_of_one_line_move_together(self):
        found = steps_from(XY, parsed("write y", "read z"), ((0, 0), (((0,), True), ((0,), True))))
        self.assertEqual(found, [(0, None, 0, ((None, 0), (((0,), True), ((0,), True)))),
                                 (1, None, 1, ((0, None), (((0,), True), ((0, 1), False))))])

    def test_order_of_threads_and_of_targets(self):
        threads = parsed("read x -> 0 1 2 end\nread x\nread x", "read y", "write y -> 0 end")
        found = steps_from(APART, threads, start(APART, threads))
        self.assertEqual([step[:2] for step in found],
                         [(0, 0), (0, 1), (0, 2), (0, None), (1, None), (2, 0), (2, None)])

    def test_threads_that_have_ended_make_no_steps_and_go_on_holding(self):
        ended = ((None, None), (((0,), True), ((0, 1), False)))
        self.assertEqual(steps_from(APART, THREADS, ended), [])
        found = steps_from(APART, THREADS, ((None, 0), (((0,), True), ((0,), True))))
        self.assertEqual(found, [(1, None, 1, ((None, None), (((0,), True), ((1,), True))))])
        found = steps_from(APART, parsed("read x", "read y"), ((None, 0), (FREE, ((0,), True))))
        self.assertEqual(found, [(1, None, 1, ((None, None), (FREE, ((0, 1), False))))])

    def test_states_that_cannot_be_reached(self):
        for state in STATES:
            with self.subTest(state):
                self.assertEqual(steps_from(APART, THREADS, state), oracle.ahead(APART, THREADS, state))

    def test_no_states(self):
        for number, value in enumerate(NO_STATES + any_values()):
            with self.subTest(number):
                self.assertRaises(BadState, steps_from, APART, THREADS, value)

    def test_three_threads_can_hold_a_line(self):
        threads = parsed("read x", "read x", "read x")
        self.assertEqual(len(steps_from(TOGETHER, threads, ((0, 0, 0), (((0, 1, 2), False),)))), 3)
        self.assertRaises(BadState, steps_from, TOGETHER, threads, ((0, 0, 0), (((0, 1, 2), True),)))
        self.assertRaises(BadState, steps_from, TOGETHER, threads, ((0, 0, 0), (((0, 1, 2, 3), False),)))

    def test_from_each_state_as_the_points_tell(self):
        for layout, threads in BY_HAND + [case[::2] for case in random_cases(1, 40)]:
            for state, steps in oracle.table(layout, threads).items():
                self.assertEqual(steps_from(layout, threads, state), steps)


class Runs(unittest.TestCase):
    def test_example(self):
        self.assertEqual(moves_of(TOGETHER, THREADS, [(0, 1), (1, None), (0, None)]), [1, 1, 1])
        self.assertEqual(moves_of(APART, THREADS, [(0, 1), (1, None), (0, None)]), [1, 1, 0])

    def test_run_without_steps(self):
        self.assertEqual(moves_of(TOGETHER, THREADS, []), [])

    def test_runs_that_are_not_whole(self):
        self.assertEqual(moves_of(TOGETHER, THREADS, [(0, 1)]), [1])
        self.assertEqual(moves_of(TOGETHER, THREADS, [(1, None), (0, 1)]), [1, 1])

    def test_no_runs(self):
        for number, (run, index) in enumerate(NO_RUNS):
            with self.subTest(number):
                with self.assertRaises(BadRun) as caught:
                    moves_of(TOGETHER, THREADS, run)
                self.assertEqual(caught.exception.index, index)
                self.assertIs(type(caught.exception.index), int)

    def test_other_values(self):
        for value in any_values():
            if value != []:
                with self.assertRaises(BadRun) as caught:
                    moves_of(TOGETHER, THREADS, value)
                self.assertEqual(caught.exception.index, 0)

    def test_long_runs(self):
        threads = parsed("read x -> 0", "write y -> 0")
        run = [(0, 0), (1, 0)] * 5000
        self.assertEqual(moves_of(TOGETHER, threads, run), [1] * 10000)
        self.assertEqual(moves_of(APART, threads, run), [1, 1] + [0] * 9998)
        with self.assertRaises(BadRun) as caught:
            moves_of(APART, threads, run + [(0, None)])
        self.assertEqual(caught.exception.index, 10000)

    def test_runs_at_random(self):
        for seed, (layout, _, threads) in enumerate(random_cases(2, 60)):
            run = random_run(seed, threads, 25)
            self.assertEqual(moves_of(layout, threads, run), oracle.follow(layout, threads, run)[0])


class Reached(unittest.TestCase):
    def test_by_hand(self):
        line = ((0,), False)
        self.assertEqual(sorted(reached(TOGETHER, parsed("read x -> 0")), key=str), [((0,), (FREE,)), ((0,), (line,))])
        self.assertCountEqual(reached(TOGETHER, parsed("read x")), [((0,), (FREE,)), ((None,), (line,))])

    def test_nodes_that_no_run_comes_to(self):
        self.assertEqual(len(reached(TOGETHER, parsed("read x -> end\nwrite y -> 0"))), 2)

    def test_each_state_once_and_no_other_ones(self):
        for layout, threads in BY_HAND + [case[::2] for case in random_cases(3, 60)]:
            found = reached(layout, threads)
            self.assertIs(type(found), list)
            self.assertEqual(len(found), len(set(found)))
            self.assertEqual(set(found), set(oracle.table(layout, threads)))

    def test_just_1000_states(self):
        for layout, threads in THOUSAND:
            found = reached(layout, threads)
            self.assertEqual(len(found), 1000)
            self.assertEqual(set(found), set(oracle.table(layout, threads)))

    def test_more_than_1000_states(self):
        for layout, threads in THOUSAND_AND_ONE:
            self.assertEqual(len(oracle.table(layout, threads)), 1001)
            self.assertRaises(TooManyStates, reached, layout, threads)
        self.assertRaises(TooManyStates, reached, XY, MANY)
        self.assertRaises(TooManyStates, reached, TOGETHER, MANY)


class NodeKinds(unittest.TestCase):
    def test_by_hand(self):
        for layout, threads, kinds in (
            (TOGETHER, THREADS, [["always", "sometimes"], ["always"]]),
            (APART, THREADS, [["always", "never"], ["always"]]),
            (TOGETHER, parsed("read x -> end\nwrite y -> 0"), [["always", "unreached"]]),
            (TOGETHER, parsed("read x -> 0"), [["sometimes"]]),
            (TOGETHER, parsed("read x -> 1\nread y -> 2\nwrite y -> 3\nwrite x"),
             [["always", "never", "always", "never"]]),
            (APART, parsed("read x", "write x"), [["always"], ["always"]]),
            (TOGETHER, parsed("read x -> 1\nread y", "write x -> 1\nread y -> 1"),
             [["always", "sometimes"], ["always", "never"]]),
        ):
            with self.subTest([str(program) for program in threads]):
                self.assertEqual(node_kinds(layout, threads), kinds)

    def test_as_the_steps_of_all_states_tell(self):
        for layout, threads in BY_HAND + [case[::2] for case in random_cases(4, 60)]:
            self.assertEqual(node_kinds(layout, threads), oracle.kinds(oracle.table(layout, threads), threads))

    def test_1000_states_and_more(self):
        for layout, threads in THOUSAND:
            self.assertEqual(node_kinds(layout, threads), oracle.kinds(oracle.table(layout, threads), threads))
        for layout, threads in THOUSAND_AND_ONE:
            self.assertRaises(TooManyStates, node_kinds, layout, threads)

    def test_steps_and_runs_where_more_states_can_be_reached(self):
        self.assertEqual(len(steps_from(XY, MANY, start(XY, MANY))), 27)
        self.assertEqual(moves_of(XY, MANY, [(0, 7), (1, None), (2, 0), (0, 0)]), [1, 1, 1, 1])


if __name__ == "__main__":
    unittest.main()
