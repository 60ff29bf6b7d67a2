"""Turns: points 13 and 18, and the interface of sharedlines/turns.py."""

import time
import unittest

from sharedlines.errors import BadRun, TooManyStates, UnknownCell
from sharedlines.greatest import greatest, least
from sharedlines.layouts import Layout
from sharedlines.steps import reached
from sharedlines.turns import greatest_in_turns, keeps_turns, least_in_turns, turn_run
from tests import oracle
from tests.cases import (
    APART, BY_HAND, EIGHT_ROWS, MANY, ONE, OWN, THOUSAND, TOGETHER, XY, parsed, random_cases, random_run)
from tests.test_steps import NO_RUNS
from tests.values import any_values

PAIR = parsed("write x -> 1\nwrite x", "write y -> 1\nwrite y")
CASES = BY_HAND + [case[::2] for case in random_cases(61, 50)] + [case[::2] for case in random_cases(62, 20, 4, 2)]

# A layout, threads, and their greatest and least numbers for turns of 1, 2 and 3.
NUMBERS = [
    (TOGETHER, ["write x -> 1\nwrite x", "write y -> 1\nwrite y"], [4, 4, 4], [4, 2, 2]),
    (TOGETHER, ["write x -> 1\nwrite x -> 2\nwrite x", "write y -> 1\nwrite y -> 2\nwrite y"], [6, 6, 6], [6, 4, 2]),
    (TOGETHER, ["write x -> 1\nwrite x -> 2\nwrite x"], [1, 1, 1], [1, 1, 1]),
    (TOGETHER, ["read x"], [1, 1, 1], [1, 1, 1]),
    (TOGETHER, ["read x -> 0 end"], [1, 1, 1], [1, 1, 1]),
    (TOGETHER, ["read x -> 0"], [1, 1, 1], [None, None, None]),
    (TOGETHER, ["write x -> 0 end", "write y -> 0 end"], [None, None, None], [2, 2, 2]),
    (TOGETHER, ["write x -> 0", "write y"], [3, 3, 3], [None, None, None]),
    (TOGETHER, ["write x -> 1\nread x -> 0", "read y -> 0"], [None, None, None], [None, None, None]),
    # The other one ends first, and the thread alone goes on with all of its steps.
    (TOGETHER, ["write x -> 1\nwrite x -> 2\nwrite x -> 3\nwrite x", "write y"], [3, 3, 3], [2, 2, 2]),
    (TOGETHER, ["write x -> 1\nwrite x -> 2\nwrite x", "write x -> 1\nwrite y"], [5, 5, 5], [4, 2, 2]),
    # Longer turns let the other one wait until a thread has come to its writes.
    (TOGETHER, ["write x", "read y -> 1 end\nwrite y -> 1"], [3, 4, 4], [2, 2, 2]),
    (TOGETHER, ["write y -> end", "read x -> 2 end\nwrite x -> 0\nwrite y -> 1 2"], [3, 4, 5], [2, 2, 2]),
    (TOGETHER, ["read y -> 1\nread y", "read x -> 1\nread y -> 0 2\nwrite y -> 0"], [3, 5, 6], [None, None, None]),
    (APART, ["read x", "write y -> 0 2\nwrite x -> 1\nread y -> 0 1"], [3, 3, 4], [None, None, None]),
    (XY, ["read z -> 1 2 end\nwrite y -> 0\nread x -> 1", "write y -> 1\nread x"], [5, 6, 8], [2, 2, 2]),
    (XY, ["write z -> 1\nwrite y -> end\nread y -> 2", "write y -> 0 2\nread y\nread z -> 1 2"], [5, 6, 6], [5, 4, 4]),
]

# (layout, threads, turn) with just 1,000 states in turns; the same with just 1,001.
THOUSAND_IN_TURNS = [
    (XY, parsed("read x -> 0 1 end\nread z -> 0 2 end\nwrite z -> 1",
                "read y -> 0 1 2\nread z -> 0 2 end\nread z -> 1\nwrite y", "write x -> 0 end"), 1),
    (OWN, parsed("read z -> 0 end\nwrite y -> 0 1 end", "read y -> 1 2\nread y -> 0 2 end\nread z -> 0 2",
                 "read x -> 1\nread x -> 1 2 end\nwrite z -> 1"), 2),
    (XY, parsed("read x -> 0 1 end\nread z -> 0 1", "write x -> 0 1 2\nread z -> 0 1 2\nread x -> 1", "read y"), 3),
]
THOUSAND_AND_ONE_IN_TURNS = [
    (OWN, parsed("read y -> 1 2 end\nwrite z -> 0 1 2\nwrite x -> 0 1 end", "write y -> 2\nread x -> 0 1 2\nwrite y",
                 "read z -> 0 2 end\nwrite x\nwrite x -> 0 end"), 1),
    (XY, parsed("read z -> 1 2 end\nwrite y -> 1\nread x", "read x -> 0 1 end\nread z -> 0",
                "read z -> 2\nread x -> 0 2\nwrite x -> 1"), 2),
    (TOGETHER, parsed("read y -> 3 end\nread x -> 1 2 3\nread y -> 2\nread y -> 1 3", "read x -> 0 1 end\nwrite y -> 0 1 end",
                      "read x -> 0 1 end\nread y\nread y -> 2"), 3),
]

# More than 1,000 states of all runs, but just 139 with turns of 1.
FIVE = Layout({name: 1 for name in "vwxyz"}, 1, [[name] for name in "vwxyz"])
ROUNDS = parsed(
    "write x -> 1\nwrite z -> 2\nread y -> 3\nread z -> 4\nread w -> 5\nread x -> 6\nwrite v -> 7\nwrite v -> 0",
    "write x -> 1\nwrite y -> 2\nread y -> 3\nread v -> 4\nwrite x -> 5\nwrite y -> 6\nwrite w -> 0")


def all_runs(layout, threads, length):
    """All runs with so many steps or fewer."""
    found = [[]]
    level = [([], oracle.at_start(layout, threads))]
    for _ in range(length):
        level = [(run + [step[:2]], step[3]) for run, state in level
                 for step in oracle.ahead(layout, threads, state)]
        found.extend(run for run, _ in level)
    return found


class KeepsTurns(unittest.TestCase):
    def test_by_hand(self):
        long = parsed("read x -> 1\nread x -> 2\nread x -> 3\nread x", "read y -> 0 end")
        for run, kept in (
            ([], [True, True, True]),
            ([(0, 1)], [True, True, True]),
            ([(0, 1), (0, 2)], [False, True, True]),
            ([(0, 1), (0, 2), (0, 3)], [False, False, True]),
            ([(0, 1), (0, 2), (0, 3), (0, None)], [False, False, False]),
            ([(0, 1), (1, 0), (0, 2), (1, 0), (0, 3)], [True, True, True]),
            ([(0, 1), (0, 2), (1, 0), (0, 3), (0, None)], [False, True, True]),
            # All others have ended ahead of the second step.
            ([(1, None), (0, 1), (0, 2), (0, 3), (0, None)], [True, True, True]),
            ([(0, 1), (1, None), (0, 2), (0, 3), (0, None)], [True, True, True]),
            ([(0, 1), (0, 2), (1, None), (0, 3), (0, None)], [False, True, True]),
            ([(1, 0), (1, None)], [False, True, True]),
            ([(1, 0), (1, 0), (1, 0), (1, None), (0, 1)], [False, False, False]),
            ([(0, 1), (1, 0), (1, 0), (1, 0), (0, 2)], [False, False, True]),
        ):
            with self.subTest(run):
                self.assertEqual([keeps_turns(APART, long, run, turn) for turn in (1, 2, 3)], kept)
                self.assertEqual({type(keeps_turns(APART, long, run, turn)) for turn in (1, 2, 3)}, {bool})

    def test_a_thread_alone(self):
        alone = parsed("read x -> 0 end")
        for turn in (1, 2, 3):
            self.assertIs(keeps_turns(TOGETHER, alone, [(0, 0)] * 9 + [(0, None)], turn), True)

    def test_one_of_two_others_is_enough(self):
        three = parsed("read x -> 0 end", "read x", "read x")
        self.assertIs(keeps_turns(TOGETHER, three, [(1, None), (0, 0), (0, 0)], 1), False)
        self.assertIs(keeps_turns(TOGETHER, three, [(1, None), (0, 0), (2, None), (0, 0), (0, 0)], 1), True)

    def test_all_short_runs(self):
        counts = [0, 0]
        for layout, threads in CASES[:40]:
            for run in all_runs(layout, threads, 4)[:200]:
                for turn in (1, 2, 3):
                    expected = oracle.keeps_turns(layout, threads, run, turn)
                    counts[expected] += 1
                    self.assertIs(keeps_turns(layout, threads, run, turn), expected)
        self.assertGreater(min(counts), 500)

    def test_runs_at_random(self):
        for seed, (layout, threads) in enumerate(CASES):
            run = random_run(seed, threads, 12)
            for turn in (1, 2, 3):
                self.assertIs(keeps_turns(layout, threads, run, turn),
                              oracle.keeps_turns(layout, threads, run, turn))

    def test_bad_runs(self):
        for run, index in NO_RUNS:
            for turn in (1, 2, 3):
                with self.assertRaises(BadRun) as caught:
                    keeps_turns(TOGETHER, parsed("write x -> 1\nwrite x", "write y"), run, turn)
                self.assertEqual(caught.exception.index, index)
        # What is no step there comes ahead of an answer.
        with self.assertRaises(BadRun) as caught:
            keeps_turns(APART, PAIR, [(0, 1), (0, None), (0, None)], 1)
        self.assertEqual(caught.exception.index, 2)

    def test_other_values(self):
        for value in any_values():
            if value != []:
                self.assertRaises(BadRun, keeps_turns, APART, PAIR, value, 1)
                self.assertRaises(UnknownCell, keeps_turns, APART, parsed("read x", "read q"), value, 1)

    def test_many_states_do_not_matter(self):
        self.assertIs(keeps_turns(XY, MANY, [(0, 7), (1, None), (2, 0), (0, 0)], 1), True)
        self.assertIs(keeps_turns(XY, MANY, [(0, 7), (0, 0), (0, None), (1, 0)], 2), False)
        self.assertRaises(BadRun, keeps_turns, XY, MANY, [(0, 7), (0, 9)], 1)


class Numbers(unittest.TestCase):
    def test_by_hand(self):
        for layout, texts, most, fewest in NUMBERS:
            with self.subTest(texts):
                threads = parsed(*texts)
                self.assertEqual([greatest_in_turns(layout, threads, turn) for turn in (1, 2, 3)], most)
                self.assertEqual([least_in_turns(layout, threads, turn) for turn in (1, 2, 3)], fewest)
                for turn, number in zip((1, 2, 3), most):
                    self.check_run(layout, threads, turn, number)

    def test_as_the_point_tells(self):
        found = set()
        for layout, threads in CASES:
            for turn in (1, 2, 3):
                steps = oracle.turn_table(layout, threads, turn)
                if oracle.turn_states(steps, turn) > 1000 or len(steps) > 1200:
                    continue
                first = (oracle.at_start(layout, threads), ())
                most, fewest = oracle.rests(steps)[first], oracle.floors(steps)[first]
                found.add((most is None, fewest is None))
                self.assertEqual(greatest_in_turns(layout, threads, turn), most)
                self.assertEqual(least_in_turns(layout, threads, turn), fewest)
                self.check_run(layout, threads, turn, most)
        self.assertEqual(len(found), 4)

    def check_run(self, layout, threads, turn, most):
        run = turn_run(layout, threads, turn)
        if most is None:
            self.assertIsNone(run)
            return
        self.assertIs(type(run), list)
        self.assertTrue(all(type(step) is tuple and len(step) == 2 for step in run))
        self.assertTrue(oracle.keeps_turns(layout, threads, run, turn))
        self.assertEqual(sum(oracle.follow(layout, threads, run)[0]), most)

    def test_short_runs_do_not_go_beyond(self):
        for layout, threads in CASES[:30]:
            numbers = {turn: (greatest_in_turns(layout, threads, turn), least_in_turns(layout, threads, turn))
                       for turn in (1, 2, 3)}
            for run in all_runs(layout, threads, 5)[:300]:
                moves, states = oracle.follow(layout, threads, run)
                for turn, (most, fewest) in numbers.items():
                    if oracle.keeps_turns(layout, threads, run, turn):
                        self.assertTrue(most is None or sum(moves) <= most)
                        if set(states[-1][0]) == {None}:
                            self.assertLessEqual(fewest, sum(moves))

    def test_smaller_turns_never_make_more_or_save_any(self):
        """Point 18, where None is greater than each number."""
        grown = 0
        for layout, threads in CASES + [(layout, parsed(*texts)) for layout, texts, _, _ in NUMBERS]:
            if len(reached(layout, threads)) > 111:
                continue
            most = [greatest_in_turns(layout, threads, turn) for turn in (1, 2, 3)] + [greatest(layout, threads)]
            fewest = [least_in_turns(layout, threads, turn) for turn in (1, 2, 3)] + [least(layout, threads)]
            for number in range(3):
                self.assertTrue(most[number + 1] is None or most[number] is not None
                                and most[number] <= most[number + 1])
                self.assertTrue(fewest[number] is None or fewest[number + 1] is not None
                                and fewest[number] >= fewest[number + 1])
                grown += most[number] != most[number + 1] or fewest[number] != fewest[number + 1]
        self.assertGreater(grown, 5)


class ManyStates(unittest.TestCase):
    functions = (greatest_in_turns, least_in_turns, turn_run)

    def test_just_1000_states(self):
        for layout, threads, turn in THOUSAND_IN_TURNS:
            steps = oracle.turn_table(layout, threads, turn)
            self.assertEqual(oracle.turn_states(steps, turn), 1000)
            most = oracle.rests(steps)[(oracle.at_start(layout, threads), ())]
            self.assertEqual(greatest_in_turns(layout, threads, turn), most)
            fewest = oracle.floors(steps)[(oracle.at_start(layout, threads), ())]
            self.assertEqual(least_in_turns(layout, threads, turn), fewest)
            self.assertEqual(turn_run(layout, threads, turn) is None, most is None)

    def test_more_than_1000_states(self):
        for layout, threads, turn in THOUSAND_AND_ONE_IN_TURNS:
            self.assertEqual(oracle.turn_states(oracle.turn_table(layout, threads, turn), turn), 1001)
            self.assertLess(len(reached(layout, threads)), 1001)
            for function in self.functions:
                self.assertRaises(TooManyStates, function, layout, threads, turn)

    def test_steps_in_a_row_are_counted_up_to_turn(self):
        # A thread alone: the start, the line held behind one step, two, and three or more.
        for many, layout, threads, turn in (
            (2, TOGETHER, parsed("read x -> 0"), 1), (3, TOGETHER, parsed("read x -> 0"), 2),
            (4, TOGETHER, parsed("read x -> 0"), 3),
        ):
            self.assertEqual(oracle.turn_states(oracle.turn_table(layout, threads, turn), turn), many)
        threads = parsed(EIGHT_ROWS, EIGHT_ROWS)
        self.assertEqual(len(reached(TOGETHER, threads)), 100)
        for turn in (1, 2, 3):
            self.assertEqual(greatest_in_turns(TOGETHER, threads, turn), 2)

    def test_the_states_of_all_runs_do_not_matter(self):
        self.assertRaises(TooManyStates, reached, FIVE, ROUNDS)
        steps = oracle.turn_table(FIVE, ROUNDS, 1)
        self.assertEqual(oracle.turn_states(steps, 1), 139)
        first = (oracle.at_start(FIVE, ROUNDS), ())
        self.assertEqual(greatest_in_turns(FIVE, ROUNDS, 1), oracle.rests(steps)[first])
        self.assertIsNone(least_in_turns(FIVE, ROUNDS, 1))
        self.assertEqual(turn_run(FIVE, ROUNDS, 1) is None, oracle.rests(steps)[first] is None)
        self.assertRaises(TooManyStates, greatest_in_turns, FIVE, ROUNDS, 3)
        layout, threads = THOUSAND[0]
        self.assertEqual(len(reached(layout, threads)), 1000)
        for function in self.functions:
            self.assertRaises(TooManyStates, function, layout, threads, 1)

    def test_unknown_cells_come_first(self):
        threads = [*MANY[:2], *parsed("read x -> 1\nwrite q")]
        for function in self.functions:
            for turn in (1, 2, 3):
                self.assertRaises(TooManyStates, function, ONE, MANY, turn)
                with self.assertRaises(UnknownCell) as caught:
                    function(ONE, threads, turn)
                self.assertEqual(caught.exception.cell, "q")

    def test_within_a_second_or_so(self):
        for layout, threads, turn in THOUSAND_IN_TURNS:
            for function in self.functions:
                begin = time.process_time()
                function(layout, threads, turn)
                self.assertLess(time.process_time() - begin, 2)


if __name__ == "__main__":
    unittest.main()
