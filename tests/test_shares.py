"""Loops, shares and weights: point 11, and the interface of sharedlines/shares.py."""

import math
import unittest

from sharedlines.errors import TooManyStates
from sharedlines.shares import are_weights, loop, share, weights
from sharedlines.steps import reached
from tests import oracle
from tests.cases import (
    APART, BY_HAND, MANY, THOUSAND, THOUSAND_AND_ONE, TOGETHER, XY, parsed, random_cases, random_rings)
from tests.values import any_values

THREADS = parsed("write x -> 0", "write y -> 0 end")
CASES = BY_HAND + random_rings(23, 60)
CASES += [case[::2] for case in random_cases(21, 80) + random_cases(22, 40, 4, 2)]

# Threads on TOGETHER, and the greatest share.
SHARES = [
    (["write x -> 0", "write y -> 0 end"], (1, 1)),
    (["write x -> 1\nwrite x", "write y"], None),
    (["read x"], None),
    (["read x -> 0"], (0, 1)),
    (["read x -> 0 end", "read y -> 0"], (0, 1)),
    (["write x -> 1\nread y -> 0"], (0, 1)),
    (["read x -> 0", "write y -> 0"], (1, 1)),
    (["read x -> 0", "write y"], (0, 1)),
    (["write x -> 1\nread x -> 2\nread x -> 0", "write y -> 1\nread y -> 2\nread y -> 0"], (2, 3)),
    (["read x -> 1\nread z -> 2\nread z -> 0", "write y -> 1\nread z -> 2\nread z -> 0"], (1, 3)),
    (["read x -> 1\nread z -> 0", "write y -> 1\nread z -> 2\nread z -> 0"], (2, 5)),
    (["write x -> 1\nread z -> 0", "write y -> 1\nread z -> 0"], (1, 2)),
    # All loops come behind nodes that no loop passes.
    (["write z -> 1\nwrite z -> 2\nread x -> 2", "write z -> 1\nwrite y -> 2\nread z -> 1"], (2, 3)),
]


class Shares(unittest.TestCase):
    def test_by_hand(self):
        for texts, expected in SHARES:
            with self.subTest(texts):
                self.assertEqual(share(XY, parsed(*texts)), expected)
        self.assertEqual(share(APART, THREADS), (0, 1))

    def test_as_the_point_tells(self):
        wanted = set()
        for layout, threads in CASES:
            steps = oracle.table(layout, threads)
            if len(steps) > 150:
                continue
            expected = oracle.share(steps, oracle.at_start(layout, threads))
            wanted.add(expected)
            found = share(layout, threads)
            self.assertEqual(found, expected)
            if found is not None:
                self.assertEqual([type(found), type(found[0]), type(found[1])], [tuple, int, int])
                self.assertEqual(math.gcd(*found), 1)
        self.assertGreater(len(wanted), 8)


class Loops(unittest.TestCase):
    def test_a_loop_has_the_greatest_share(self):
        for layout, threads in CASES + THOUSAND:
            found = loop(layout, threads)
            expected = share(layout, threads)
            if expected is None:
                self.assertIsNone(found)
                continue
            self.assertIs(type(found), tuple)
            run, ring = found
            self.assertEqual([type(run), type(ring)], [list, list])
            self.assertTrue(all(type(step) is tuple and len(step) == 2 for step in run + ring))
            self.assertGreater(len(ring), 0)
            moves, states = oracle.follow(layout, threads, run + ring)
            self.assertEqual(states[len(run)], states[-1])
            self.assertEqual(sum(moves[len(run):]) * expected[1], expected[0] * len(ring))

    def test_by_hand(self):
        self.assertIsNone(loop(TOGETHER, parsed("read x -> 1\nwrite x", "read x")))
        self.assertEqual(loop(TOGETHER, parsed("read x -> 0")), ([(0, 0)], [(0, 0)]))
        run, ring = loop(TOGETHER, THREADS)
        self.assertEqual(oracle.follow(TOGETHER, THREADS, run + ring)[0][len(run):], [1] * len(ring))


class Weights(unittest.TestCase):
    def test_weights_show_the_share(self):
        for layout, threads in CASES + THOUSAND:
            found = weights(layout, threads)
            expected = share(layout, threads)
            if expected is None:
                self.assertIsNone(found)
                continue
            top, bottom = expected
            steps = oracle.table(layout, threads)
            self.assertIs(type(found), dict)
            self.assertEqual(set(found), set(steps))
            for state, row in steps.items():
                self.assertIs(type(found[state]), int)
                self.assertLess(abs(found[state]), 10 ** 1000)
                for _, _, moves, behind in row:
                    self.assertLessEqual(bottom * moves - top + found[behind], found[state])
            self.assertIs(are_weights(layout, threads, expected, found), True)

    def test_by_hand(self):
        self.assertIsNone(weights(TOGETHER, parsed("read x -> 1\nwrite x", "read x")))

    def test_weights_for_other_shares(self):
        for layout, threads in CASES:
            found = weights(layout, threads)
            if found is None:
                continue
            steps = oracle.table(layout, threads)
            # For (1, 1), a step never has a gain, so equal weights will do.
            self.assertIs(are_weights(layout, threads, (1, 1), {state: -5 for state in steps}), True)
            top, bottom = share(layout, threads)
            if top > 0:
                self.assertIs(are_weights(layout, threads, (0, 1), found), False)
                self.assertIs(are_weights(layout, threads, (0, 1), {state: 0 for state in steps}), False)


class AreWeights(unittest.TestCase):
    # The start, the state behind a read, and that behind the end.
    first, second, third = ((0,), (((), False),)), ((0,), (((0,), False),)), ((None,), (((0,), False),))
    threads = parsed("read x -> 0 end")

    def told(self, some_share, first, second, third):
        numbers = {self.second: second, self.third: third, self.first: first}
        return are_weights(TOGETHER, self.threads, some_share, numbers)

    def test_each_step_counts(self):
        for some_share, numbers, expected in (
            ((0, 1), (1, 0, 0), True), ((0, 1), (0, 0, 0), False), ((0, 1), (1, 1, 0), False),
            ((0, 1), (1, 0, 1), False), ((0, 1), (2, 1, 0), True), ((0, 1), (-4, -5, -5), True),
            ((0, 1), (-5, -5, -5), False), ((0, 1), (0, -1, -1), True), ((0, 1), (0, -1, 0), False),
            ((1, 1), (0, 0, 0), True), ((1, 1), (0, 0, 1), False), ((1, 1), (0, 1, 0), False),
            ((1, 1), (1, 1, 2), False), ((1, 2), (1, 0, 0), True), ((1, 2), (0, 0, 0), False),
            ((1, 2), (0, -1, -1), True), ((1, 2), (0, -1, 0), False), ((2, 3), (1, 0, 0), True),
            ((2, 3), (0, 0, 0), False), ((2, 3), (1, 0, 1), False), ((2, 3), (2, 0, 1), True),
            ((2, 3), (2, 0, 2), False), ((2, 3), (4, 0, 3), False), ((2, 3), (4, 1, 3), True),
        ):
            with self.subTest(some_share, numbers=numbers):
                self.assertIs(self.told(some_share, *numbers), expected)

    def test_long_integers(self):
        long = 10 ** 5000
        self.assertIs(self.told((0, 1), long + 1, long, long), True)
        self.assertIs(self.told((0, 1), long, long, long), False)
        self.assertIs(self.told((0, 1), long, -long, -long), True)

    def test_without_loops(self):
        threads = parsed("write x")
        states = [((0,), (((), False),)), ((None,), (((0,), True),))]
        self.assertIs(are_weights(TOGETHER, threads, (0, 1), dict(zip(states, (1, 0)))), True)
        self.assertIs(are_weights(TOGETHER, threads, (0, 1), dict(zip(states, (0, 0)))), False)
        self.assertIs(are_weights(TOGETHER, threads, (1, 1), dict(zip(states, (0, 0)))), True)

    def test_a_share_that_is_less_than_that_of_a_loop(self):
        states = reached(TOGETHER, THREADS)
        for number in (0, 1, -1, 10 ** 9):
            self.assertIs(are_weights(TOGETHER, THREADS, (999, 1000), {state: number for state in states}), False)
        self.assertIs(are_weights(TOGETHER, THREADS, (1, 1), {state: 0 for state in states}), True)

    def test_keys_are_compared_with_equality(self):
        equal = {((False,), (((), 0),)): 1, ((0,), (((False,), 0),)): 0, ((None,), (((0,), 0),)): 0}
        self.assertIs(are_weights(TOGETHER, self.threads, (0, 1), equal), True)

    def test_keys_left_out_or_too_many(self):
        right = {self.first: 1, self.second: 0, self.third: 0}
        for state in right:
            fewer = {key: number for key, number in right.items() if key != state}
            self.assertIs(are_weights(TOGETHER, self.threads, (0, 1), fewer), False)
            self.assertIs(are_weights(TOGETHER, self.threads, (0, 1), {**fewer, None: 0}), False)
            self.assertIs(are_weights(TOGETHER, self.threads, (0, 1), {**right, (state,): 0}), False)
        self.assertIs(are_weights(TOGETHER, self.threads, (0, 1), {**right, ((0,), (((0,), True),)): 0}), False)
        self.assertIs(are_weights(TOGETHER, self.threads, (0, 1), {}), False)

    def test_numbers_that_are_no_integers(self):
        right = {self.first: 1, self.second: 0, self.third: 0}
        for state in right:
            for value in (None, True, False, "0", "", (0,), [0], {0: 0}, []):
                self.assertIs(are_weights(TOGETHER, self.threads, (0, 1), {**right, state: value}), False)

    def test_other_values(self):
        right = {self.first: 1, self.second: 0, self.third: 0}
        for value in any_values() + [list(right.items()), list(right), tuple(right.items()), [right]]:
            self.assertIs(are_weights(TOGETHER, self.threads, (0, 1), value), False)


class ManyStates(unittest.TestCase):
    def test_just_1000_states(self):
        for layout, threads in THOUSAND:
            self.assertEqual(len(weights(layout, threads)), 1000)

    def test_more_than_1000_states(self):
        for layout, threads in THOUSAND_AND_ONE + [(XY, MANY)]:
            for function in (share, loop, weights):
                self.assertRaises(TooManyStates, function, layout, threads)
            for value in [{state: 0 for state in oracle.table(*THOUSAND_AND_ONE[0])}] + any_values():
                self.assertRaises(TooManyStates, are_weights, layout, threads, (1, 1), value)


if __name__ == "__main__":
    unittest.main()
