"""Points 2, 3 and 18, and the order of errors, for all functions behind those of layouts and programs."""

import copy
import inspect
import random
import time
import unittest

from sharedlines import caps, compare, fewest, finding, greatest, hidden, means, shares, steps, turns
from sharedlines.errors import BadOdds, BadRun, BadState, LineError, OtherCells, TooManyStates, UnknownCell
from sharedlines.layouts import Layout
from tests import oracle
from tests.cases import (
    APART, BY_HAND, EIGHT_ROWS, MANY, ONE, OWN, THOUSAND, THOUSAND_PAIRS, TOGETHER, XY, YZ, parsed, random_cases,
    random_rings)
from tests.values import any_values

THREADS = parsed("write x -> 1\nwrite x", "write y")
RINGS = parsed("write x -> 0 1\nwrite x", "write y -> 0")
STATE = ((0, 0), (((), False),))
RUN = [(0, 1), (1, None), (0, None)]
SHARE = (1, 1)
MODULES = (steps, greatest, shares, compare, fewest, turns, means, caps, hidden, finding)


def mixture_of(layout):
    """A mixture of a layout, and of the own layout of its cells in a room of their greatest number."""
    apart = Layout(layout.cells(), 6, [[cell] for cell in layout.cells()])
    return hidden.Mixture([(1, layout), (2, apart)])


# Each function, the names of its parameters, and values for those behind the layouts or cells and the threads.
FUNCTIONS = [
    (steps.start, ["layout", "threads"], []),
    (steps.steps_from, ["layout", "threads", "state"], [STATE]),
    (steps.moves_of, ["layout", "threads", "run"], [RUN]),
    (steps.reached, ["layout", "threads"], []),
    (steps.node_kinds, ["layout", "threads"], []),
    (greatest.greatest, ["layout", "threads"], []),
    (greatest.least, ["layout", "threads"], []),
    (greatest.rests, ["layout", "threads"], []),
    (greatest.floors, ["layout", "threads"], []),
    (greatest.greatest_run, ["layout", "threads"], []),
    (greatest.least_run, ["layout", "threads"], []),
    (greatest.endless, ["layout", "threads"], []),
    (greatest.are_bounds, ["layout", "threads", "bounds"], [greatest.rests(TOGETHER, THREADS)]),
    (shares.share, ["layout", "threads"], []),
    (shares.loop, ["layout", "threads"], []),
    (shares.weights, ["layout", "threads"], []),
    (shares.are_weights, ["layout", "threads", "some_share", "weights"],
     [SHARE, {state: 0 for state in steps.reached(TOGETHER, THREADS)}]),
    (compare.parting_run, ["first", "second", "threads"], []),
    (compare.lead, ["first", "second", "threads"], []),
    (compare.together, ["layout", "threads", "run"], [RUN]),
    (compare.causes, ["layout", "threads", "run"], [RUN]),
    (compare.helpers, ["layout", "threads", "run"], [RUN]),
    (fewest.fewest_lines, ["cells", "room", "threads", "bound"], [4]),
    (fewest.shortfalls, ["cells", "room", "threads", "bound", "many"], [1, 3]),
    (fewest.calmest, ["cells", "room", "threads"], []),
    (turns.keeps_turns, ["layout", "threads", "run", "turn"], [RUN, 1]),
    (turns.greatest_in_turns, ["layout", "threads", "turn"], [2]),
    (turns.least_in_turns, ["layout", "threads", "turn"], [2]),
    (turns.turn_run, ["layout", "threads", "turn"], [2]),
    (means.mean_rests, ["layout", "threads", "odds"], [[1, 2]]),
    (means.are_means, ["layout", "threads", "odds", "means"], [[1, 2], means.mean_rests(TOGETHER, THREADS, [1, 2])]),
    (caps.caps, ["layout", "threads", "by"], ["targets"]),
    (caps.sparing, ["layout", "threads", "by"], ["targets"]),
    (caps.pressing, ["layout", "threads", "by"], ["threads"]),
    (caps.are_sparing, ["layout", "threads", "by", "table"], ["threads", caps.sparing(TOGETHER, THREADS, "threads")]),
    (caps.are_pressing, ["layout", "threads", "by", "table"], ["threads", caps.pressing(TOGETHER, THREADS, "threads")]),
    (hidden.blind, ["mixture", "threads"], []),
    (hidden.revealed, ["mixture", "threads"], []),
    (hidden.seeing, ["mixture", "threads"], []),
    (hidden.blind_run, ["mixture", "threads"], []),
    (hidden.blind_bounds, ["mixture", "threads"], []),
    (hidden.are_blind_bounds, ["mixture", "threads", "bounds"], [hidden.blind_bounds(mixture_of(TOGETHER), THREADS)]),
    (hidden.seeing_values, ["mixture", "threads"], []),
    (hidden.are_seeing_bounds, ["mixture", "threads", "bounds"], [hidden.seeing_values(mixture_of(TOGETHER), THREADS)]),
    (hidden.seeing_plan, ["mixture", "threads"], []),
    (finding.finding, ["mixture", "threads"], []),
    (finding.finding_numbers, ["mixture", "threads"], []),
    (finding.are_finding_numbers, ["mixture", "threads", "numbers"],
     [finding.finding_numbers(mixture_of(TOGETHER), THREADS)]),
]

# Functions that look at one state or run only, so that other states do not matter to them.
NOT_AT_ALL_RUNS = [steps.start, steps.steps_from, steps.moves_of, compare.together, compare.causes, compare.helpers,
                   turns.keeps_turns]

# Files with functions that look at 1,000 states of one layout or of two.
AT_1000_STATES = [module.__name__ for module in (steps, greatest, shares, compare)]


def arguments_of(names, layout, threads, others):
    if names[0] == "first":
        return [layout, layout, threads]
    if names[0] == "mixture":
        return [mixture_of(layout), threads, *others]
    if names[0] == "cells":
        return [layout.cells(), layout.room, threads, *others]
    return [layout, threads, *others]


def all_parts(value):
    """The lists and dicts within a value, itself included."""
    found = []
    if isinstance(value, (list, dict)):
        found.append(value)
    if isinstance(value, dict):
        value = list(value.items())
    if isinstance(value, (list, tuple)):
        for part in value:
            found.extend(all_parts(part))
    return found


class Interface(unittest.TestCase):
    def test_names_and_places(self):
        for function, names, _ in FUNCTIONS:
            with self.subTest(function.__name__):
                self.assertEqual(list(inspect.signature(function).parameters), names)
                place = [module for module in MODULES if module.__name__ == function.__module__]
                self.assertIs(getattr(place[0], function.__name__), function)

    def test_arguments_by_position_or_by_name(self):
        for function, names, others in FUNCTIONS:
            with self.subTest(function.__name__):
                given = arguments_of(names, TOGETHER, THREADS, others)
                self.assertEqual(function(**dict(zip(names, given))), function(*given))

    def test_arguments_are_not_changed(self):
        for function, names, others in FUNCTIONS:
            with self.subTest(function.__name__):
                given = arguments_of(names, TOGETHER, THREADS, others)
                before = copy.deepcopy(given)
                function(*given)
                self.assertEqual(given, before)
                self.assertEqual([TOGETHER.lines, TOGETHER.cells()], [(("x", "y"),), {"x": 1, "y": 1}])

    def test_returned_lists_and_dicts_are_new(self):
        for function, names, others in FUNCTIONS:
            for threads in (THREADS, RINGS):
                if function in NOT_AT_ALL_RUNS and threads is RINGS:
                    continue
                given = arguments_of(names, TOGETHER, threads, others)
                with self.subTest(function.__name__):
                    found = function(*given)
                    expected = copy.deepcopy(found)
                    parts = all_parts(found)
                    self.assertEqual(len({id(part) for part in parts}), len(parts))
                    passed = {id(part) for part in all_parts(given)}
                    self.assertFalse([part for part in parts if id(part) in passed])
                    for part in parts:
                        part.clear()
                    self.assertEqual(function(*given), expected)

    def test_equal_layouts_and_programs_give_equal_answers(self):
        turned = Layout({"y": 1, "x": 1}, 2, [["y", "x"]])
        again = parsed("write x -> 1\nwrite x", "write y")
        for function, names, others in FUNCTIONS:
            self.assertEqual(function(*arguments_of(names, turned, again, others)),
                             function(*arguments_of(names, TOGETHER, THREADS, others)))


class OrderOfErrors(unittest.TestCase):
    def test_unknown_cell_comes_ahead_of_all_others(self):
        unknown = [
            (parsed("read q"), "q"), (parsed("read x", "read q -> 0", "read r"), "q"),
            (parsed("read x -> end\nwrite r\nread q", "read q"), "r"),
            ([*MANY[:2], *parsed("read x\nwrite q")], "q"), (parsed(EIGHT_ROWS, "read xx -> end\nread w"), "xx"),
            (parsed("read r -> 1\nread q", "read q"), "r"),
        ]
        for function, names, others in FUNCTIONS:
            for threads, cell in unknown:
                for value in [None, *any_values()]:
                    given = arguments_of(names, TOGETHER, threads, others[:-1] + [value] if others else [])
                    with self.assertRaises(UnknownCell) as caught:
                        function(*given)
                    self.assertEqual(caught.exception.cell, cell)

    def test_unknown_cell_comes_behind_other_cells_only(self):
        for function in (compare.parting_run, compare.lead):
            self.assertRaises(OtherCells, function, TOGETHER, ONE, parsed("read q"))
            self.assertRaises(OtherCells, function, ONE, TOGETHER, parsed("read z"))
            self.assertRaises(UnknownCell, function, TOGETHER, APART, parsed("read z"))

    def test_too_many_states_come_ahead_of_wrong_values(self):
        for function, names, others in FUNCTIONS:
            given = arguments_of(names, XY, MANY, others)
            with self.subTest(function.__name__):
                if function not in NOT_AT_ALL_RUNS:
                    self.assertRaises(TooManyStates, function, *given)
                elif function is steps.start:
                    self.assertEqual(function(*given), ((0, 0, 0), (((), False), ((), False))))
                else:
                    error = BadState if function is steps.steps_from else BadRun
                    self.assertRaises(error, function, XY, MANY, None, *others[1:])

    def test_a_call_that_raises_changes_nothing(self):
        for function, names, others in FUNCTIONS:
            given = arguments_of(names, TOGETHER, parsed("read x", "read q"), others)
            before = copy.deepcopy(given)
            self.assertRaises(LineError, function, *given)
            self.assertEqual(given, before)
            given = arguments_of(names, TOGETHER, THREADS, others)
            self.assertEqual(function(*given), function(*given))


class Again(unittest.TestCase):
    def test_in_any_order_and_one_beside_the_other(self):
        cases = [(TOGETHER, THREADS), (APART, THREADS), (TOGETHER, RINGS), (APART, RINGS)]
        calls = [(function, arguments_of(names, layout, threads, others)) for function, names, others in FUNCTIONS
                 for layout, threads in cases
                 if function not in NOT_AT_ALL_RUNS or layout is TOGETHER and threads is THREADS]
        expected = [function(*given) for function, given in calls]
        order = random.Random(1).sample(range(len(calls)), len(calls))
        for number in order + order[::-1]:
            function, given = calls[number]
            with self.subTest(function.__name__):
                self.assertEqual(function(*given), expected[number])

    def test_what_is_changed_in_place_is_looked_at_anew(self):
        for function, names, others in FUNCTIONS:
            if function in NOT_AT_ALL_RUNS:
                continue
            with self.subTest(function.__name__):
                threads, values = list(THREADS), copy.deepcopy(others)
                given = arguments_of(names, TOGETHER, threads, values)
                first = function(*given)
                threads[:] = RINGS
                second = function(*given)
                self.assertEqual(second, function(*arguments_of(names, TOGETHER, RINGS, values)))
                threads[:] = THREADS
                self.assertEqual(function(*given), first)

    def test_tables_and_odds_that_are_changed_in_place(self):
        for function, names, others in FUNCTIONS:
            if names[-1] in ("bounds", "weights", "means", "table", "numbers"):
                table = copy.deepcopy(others[-1])
                given = arguments_of(names, TOGETHER, THREADS, [*others[:-1], table])
                before = function(*given)
                state = list(table)[0]
                kept = table.pop(state)
                self.assertIs(function(*given), False)
                table[state] = kept
                self.assertIs(function(*given), before)
        odds = [1, 2]
        first = means.mean_rests(TOGETHER, THREADS, odds)
        odds[1] = 5
        self.assertNotEqual(means.mean_rests(TOGETHER, THREADS, odds), first)
        odds.append(1)
        self.assertRaises(BadOdds, means.mean_rests, TOGETHER, THREADS, odds)


class Facts(unittest.TestCase):
    cases = BY_HAND + [case[::2] for case in random_cases(41, 80)] + random_rings(42, 20)

    def test_no_run_has_more_moves_than_the_greatest_number_and_no_whole_run_fewer_than_the_least(self):
        for layout, threads in BY_HAND:
            most, fewest = greatest.greatest(layout, threads), greatest.least(layout, threads)
            todo = [(oracle.at_start(layout, threads), 0, 7)]
            while todo:
                state, moves, left = todo.pop()
                self.assertTrue(most is None or moves <= most)
                if set(state[0]) == {None}:
                    self.assertGreaterEqual(moves, fewest)
                if left > 0:
                    todo.extend((step[3], moves + step[2], left - 1) for step in oracle.ahead(layout, threads, state))

    def test_other_threads_never_spare_a_thread_a_move(self):
        for layout, threads in self.cases:
            alone = [greatest.least(layout, [program]) for program in threads]
            expected = None if None in alone else sum(alone)
            self.assertEqual(greatest.least(layout, threads), expected)

    def test_there_is_a_greatest_number_just_if_no_loop_has_a_move(self):
        for layout, threads in self.cases + THOUSAND:
            most, best = greatest.greatest(layout, threads), shares.share(layout, threads)
            self.assertEqual(most is not None, best is None or best[0] == 0)
            self.assertEqual(most is None, greatest.greatest_run(layout, threads) is None)
            if most is not None:
                self.assertLess(most, len(steps.reached(layout, threads)))

    def test_bounds_show_that_a_layout_keeps_a_bound(self):
        for layout, threads in self.cases:
            most = greatest.greatest(layout, threads)
            if most is not None:
                bounds = greatest.rests(layout, threads)
                self.assertTrue(greatest.are_bounds(layout, threads, bounds))
                self.assertEqual(bounds[steps.start(layout, threads)], most)
                self.assertEqual(sum(steps.moves_of(layout, threads, greatest.greatest_run(layout, threads))), most)

    def test_leads_add_up(self):
        some = 0
        for threads in (THREADS, *[case[1] for case in random_rings(43, 15)], parsed("read y -> 1 2\nread x\nread z")):
            for one, two, three in ((ONE, XY, OWN), (XY, YZ, ONE), (OWN, ONE, YZ), (YZ, OWN, XY)):
                leads = [compare.lead(one, two, threads), compare.lead(two, three, threads)]
                if None not in leads:
                    some += 1
                    self.assertLessEqual(compare.lead(one, three, threads), sum(leads))
        self.assertGreater(some, 8)

    def test_layouts_that_cost_the_same_do_so_on_every_run(self):
        for first, second, threads in random_cases(44, 60):
            leads = [compare.lead(first, second, threads), compare.lead(second, first, threads)]
            if compare.parting_run(first, second, threads) is None:
                self.assertEqual(leads, [0, 0])
                self.assertEqual(greatest.greatest(first, threads), greatest.greatest(second, threads))
            else:
                self.assertNotEqual(leads, [0, 0])


class Times(unittest.TestCase):
    def test_within_a_second_or_so(self):
        # Twice what is asked for, since other work may go on beside the tests.
        for layout, threads in THOUSAND + [(XY, THOUSAND_PAIRS), (YZ, THOUSAND_PAIRS)]:
            table = {state: 0 for state in steps.reached(layout, threads)}
            for function, names, others in FUNCTIONS:
                # Others look at one run only, or their own tests tell how long they take.
                if function in NOT_AT_ALL_RUNS or function.__module__ not in AT_1000_STATES:
                    continue
                given = arguments_of(names, layout, threads, others[:-1] + [table] if others else [])
                if names[0] == "first" and threads is THOUSAND_PAIRS:
                    given = [XY, YZ, threads]
                begin = time.process_time()
                function(*given)
                with self.subTest(function.__name__):
                    self.assertLess(time.process_time() - begin, 2)

    def test_many_states_are_refused_at_once(self):
        for function, names, others in FUNCTIONS:
            if function not in NOT_AT_ALL_RUNS:
                begin = time.process_time()
                self.assertRaises(TooManyStates, function, *arguments_of(names, OWN, MANY, others))
                self.assertLess(time.process_time() - begin, 2)


if __name__ == "__main__":
    unittest.main()
