"""Drawn threads: points 20 and 28, and the interface of sharedlines/means.py."""

import math
import random
import time
import unittest
from fractions import Fraction

from sharedlines.errors import BadOdds, TooManyStates, UnknownCell
from sharedlines.greatest import greatest, least, rests
from sharedlines.means import are_means, mean_rests
from sharedlines.steps import reached, start
from tests import oracle
from tests.cases import APART, BY_HAND, MANY, ONE, OWN, THOUSAND, TOGETHER, XY, parsed, random_cases, random_rings
from tests.values import any_values

THREADS = parsed("write x -> 0 end", "write y -> 0 end")
STRAIGHT = parsed("write x -> 1\nwrite x", "write y")

# A layout, threads, odds, and the mean rest of the start.
MEANS = [
    (TOGETHER, ["write x -> 0 end", "write y -> 0 end"], [1, 1], (5, 2)),
    (APART, ["write x -> 0 end", "write y -> 0 end"], [1, 1], (2, 1)),
    (TOGETHER, ["read x"], [9], (1, 1)),
    (TOGETHER, ["read x -> 0"], [1], (1, 1)),
    # Behind the first step of thread 0 comes its second one, or thread 1 and then a move more.
    (TOGETHER, ["write x -> 1\nwrite x", "write y"], [1, 1], (9, 4)),
    (TOGETHER, ["write x -> 1\nwrite x", "write y"], [1, 2], (20, 9)),
    (TOGETHER, ["write x -> 1\nwrite x", "write y"], [2, 1], (20, 9)),
    (TOGETHER, ["write x -> 1\nwrite x", "write y"], [9, 1], (209, 100)),
    # The same chance for each target, the end included.
    (TOGETHER, ["read x -> 1 end\nwrite x"], [1], (3, 2)),
    (TOGETHER, ["read x -> 1 2 end\nwrite x\nread y"], [5], (4, 3)),
    (TOGETHER, ["read x -> 0 1\nwrite x"], [1], (2, 1)),
    # The chances of threads are by odds, however many targets they have.
    (APART, ["read x -> 0 1 2\nread y\nwrite x"], [1], (2, 1)),
    (TOGETHER, ["write x -> 0 1 end\nread y", "write x"], [1, 1], (11, 5)),
    # Going round without a move, with moves for ever, and with moves as long as another one is there.
    (TOGETHER, ["read x -> 0", "read y -> 0"], [3, 4], (2, 1)),
    (TOGETHER, ["write x -> 0", "write y -> 0"], [1, 1], None),
    (APART, ["write x -> 0", "write y -> 0"], [1, 1], (2, 1)),
    (TOGETHER, ["write x -> 0", "write y -> 0 end"], [1, 1], (7, 2)),
    (TOGETHER, ["write x -> 0 1\nread y -> 1", "write y -> 0"], [1, 1], None),
]

# (layout, threads) with just 40 states that can be reached; the same with just 41.
FORTY = [
    (TOGETHER, parsed("read y", "read y\nwrite y -> 0 1 end", "write y -> 1\nread y -> 0 2 end\nwrite y -> 0 2 end")),
    (APART, parsed("read x -> 2 3\nread y -> 1\nwrite x -> 0\nwrite y -> end", "read x -> 0 1\nread y -> 0 1")),
    (TOGETHER, parsed("write x -> 0 1 end\nread y -> 0", "read y -> 0 2 end\nread x -> 0 1 2\nwrite y -> 1 end\nread x")),
    (XY, parsed("read x -> 1\nwrite x -> 0 1 end", "write z -> 0 end\nwrite x -> 0\nwrite x -> 1",
                "read z -> end\nread x -> end\nread y -> 1")),
]
FORTY_ONE = [
    (TOGETHER, parsed("write y -> 1 end\nread x -> end", "read y -> 0 end", "read y -> 0 end\nread x -> 1")),
    (APART, parsed("read y -> 0 end\nread x -> 0 2\nwrite y", "write y -> 0 end", "read y -> 0 end")),
    (XY, parsed("read z -> 0 1 2\nwrite y -> 1 2 end\nwrite z -> end", "read y -> 1\nwrite z")),
]


def odds_at_random(source, threads):
    return [source.choice([1, 1, 2, 3, 5, 9]) for _ in threads]


def small_cases():
    """Layouts and threads with at most 40 states: (layout, threads, odds)."""
    source = random.Random(81)
    cases = BY_HAND + FORTY + [case[::2] for case in random_cases(82, 200, 3, 3)]
    cases += [case[::2] for case in random_cases(83, 100, 3, 2)] + random_rings(84, 20)
    found = []
    for layout, threads in cases:
        if len(reached(layout, threads)) <= 40:
            found.append((layout, threads, odds_at_random(source, threads)))
    return found


CASES = small_cases()


class Means(unittest.TestCase):
    def test_by_hand(self):
        for layout, texts, odds, expected in MEANS:
            with self.subTest(texts, odds=odds):
                threads = parsed(*texts)
                self.assertEqual(mean_rests(layout, threads, odds)[start(layout, threads)], expected)

    def test_all_states_of_an_example(self):
        free, by = ((), False), [((0,), True), ((1,), True)]
        self.assertEqual(mean_rests(TOGETHER, STRAIGHT, [1, 3]), {
            ((0, 0), (free,)): (35, 16), ((1, 0), (by[0],)): (7, 4), ((0, None), (by[1],)): (1, 1),
            ((None, 0), (by[0],)): (1, 1), ((1, None), (by[1],)): (1, 1), ((1, None), (by[0],)): (0, 1),
            ((None, None), (by[0],)): (0, 1), ((None, None), (by[1],)): (0, 1),
        })

    def test_none_and_numbers_beside_each_other(self):
        # Thread 0 goes round with moves for ever, but from where it has ended none can come.
        threads = parsed("write x -> 0 1\nread z", "write y -> 0")
        found = mean_rests(XY, threads, [1, 1])
        self.assertEqual({found[state] is None for state in found if state[0][0] == 0}, {False})
        threads = parsed("write x -> 0 1 2\nread z\nwrite x -> 2", "write y -> 0")
        found = mean_rests(XY, threads, [1, 1])
        self.assertIsNone(found[start(XY, threads)])
        for state, mean in found.items():
            self.assertEqual(mean is None, state[0][0] in (0, 2), state)
        self.assertIn((0, 1), found.values())
        self.assertIn((2, 1), found.values())

    def test_loops_with_moves_that_end_some_time(self):
        # There is no greatest number, but a mean.
        for odds in ([1, 1], [9, 1], [1, 9], [9, 9]):
            self.assertIsNone(greatest(TOGETHER, THREADS))
            self.assertNotIn(None, mean_rests(TOGETHER, THREADS, odds).values())

    def test_as_the_point_tells(self):
        kinds = set()
        for layout, threads, odds in CASES:
            found = mean_rests(layout, threads, odds)
            self.assertIs(type(found), dict)
            self.assertEqual(set(found), set(oracle.table(layout, threads)))
            self.assertTrue(oracle.are_mean_rests(oracle.table(layout, threads), threads, odds, found))
            for mean in found.values():
                kinds.add(mean if mean in (None, (0, 1)) else mean[1] > 1)
                if mean is not None:
                    self.assertEqual([type(mean), type(mean[0]), type(mean[1])], [tuple, int, int])
                    self.assertEqual([math.gcd(*mean), mean[1] > 0], [1, True])
        self.assertEqual(kinds, {None, (0, 1), True, False})
        self.assertGreater(len(CASES), 200)

    def test_between_floor_and_rest(self):
        for layout, threads, odds in CASES:
            mean = mean_rests(layout, threads, odds)[start(layout, threads)]
            most, fewest = greatest(layout, threads), least(layout, threads)
            if mean is None:
                self.assertIsNone(most)
                continue
            self.assertTrue(most is None or Fraction(*mean) <= most)
            if fewest is not None:
                self.assertGreaterEqual(Fraction(*mean), fewest)

    def test_a_further_thread_never_makes_it_less(self):
        """Point 28, where None is greater than each number, and sums with None are None."""
        some = 0
        for layout, threads, odds in CASES:
            if len(threads) < 2:
                continue
            mean = mean_rests(layout, threads, odds)[start(layout, threads)]
            for last in range(len(threads)):
                others = threads[:last] + threads[last + 1:]
                fewer = mean_rests(layout, others, odds[:last] + odds[last + 1:])[start(layout, others)]
                alone = mean_rests(layout, [threads[last]], [odds[last]])[start(layout, others[:1])]
                some += 1
                if mean is not None:
                    self.assertGreaterEqual(Fraction(*mean), Fraction(*fewer) + Fraction(*alone))
        self.assertGreater(some, 100)

    def test_odds_in_proportion(self):
        for layout, threads, _ in CASES[:40]:
            self.assertEqual(mean_rests(layout, threads, [3] * len(threads)), mean_rests(layout, threads, [1] * len(threads)))

    def test_chances_by_simulation(self):
        source = random.Random(5)
        layout, threads, odds = XY, parsed("write x -> 0 1 end\nread z", "write y -> 0 end"), [1, 3]
        total, many = 0, 4000
        for _ in range(many):
            state = oracle.at_start(layout, threads)
            while any(place is not None for place in state[0]):
                there = [thread for thread, place in enumerate(state[0]) if place is not None]
                thread = source.choices(there, [odds[other] for other in there])[0]
                target = source.choice(threads[thread].nodes[state[0][thread]][2])
                moves, state = oracle.after(layout, threads, state, thread, target)
                total += moves
        mean = Fraction(*mean_rests(layout, threads, odds)[start(layout, threads)])
        self.assertLess(abs(mean - Fraction(total, many)), Fraction(1, 8))


class Odds(unittest.TestCase):
    def test_odds_that_are_none(self):
        means = mean_rests(TOGETHER, STRAIGHT, [1, 1])
        for value in [*any_values(), [1, 0], [0, 1], [1, 10], [10, 1], [1, -1], [True, 1], [1, False], [1, None],
                      [1, "1"], [1, [1]], (1, 1), {0: 1, 1: 1}, "11", [1], [1, 1, 1], [], [1, 2.0], [1, 10 ** 5000],
                      [[1, 1]], [(1, 1)]]:
            self.assertRaises(BadOdds, mean_rests, TOGETHER, STRAIGHT, value)
            self.assertRaises(BadOdds, are_means, TOGETHER, STRAIGHT, value, means)
            self.assertRaises(BadOdds, are_means, TOGETHER, STRAIGHT, value, None)

    def test_odds_for_each_thread(self):
        for threads in (STRAIGHT[:1], STRAIGHT, STRAIGHT + STRAIGHT[1:]):
            for many in range(5):
                if many == len(threads):
                    self.assertIn(start(APART, threads), mean_rests(APART, threads, [1] * many))
                else:
                    self.assertRaises(BadOdds, mean_rests, APART, threads, [1] * many)

    def test_just_1_and_9(self):
        self.assertEqual(mean_rests(TOGETHER, STRAIGHT, [9, 9]), mean_rests(TOGETHER, STRAIGHT, [1, 1]))


class AreMeans(unittest.TestCase):
    def test_they_are(self):
        for layout, threads, odds in CASES:
            means = mean_rests(layout, threads, odds)
            self.assertIs(are_means(layout, threads, odds, means), True)
            self.assertIs(are_means(layout, threads, odds, dict(reversed(list(means.items())))), True)

    def test_other_odds(self):
        means = mean_rests(TOGETHER, STRAIGHT, [1, 2])
        self.assertIs(are_means(TOGETHER, STRAIGHT, [1, 3], means), False)
        self.assertIs(are_means(TOGETHER, STRAIGHT, [3, 6], means), True)

    def test_keys_that_are_equal(self):
        means = mean_rests(TOGETHER, STRAIGHT, [1, 2])
        equal = {(tuple(None if place is None else bool(place) for place in state[0]), state[1]): means[state]
                 for state in means}
        self.assertIs(are_means(TOGETHER, STRAIGHT, [1, 2], equal), True)
        equal = {(state[0], tuple((line[0], int(line[1])) for line in state[1])): means[state] for state in means}
        self.assertIs(are_means(TOGETHER, STRAIGHT, [1, 2], equal), True)

    def test_keys_left_out_too_many_or_exchanged(self):
        means = mean_rests(TOGETHER, STRAIGHT, [1, 2])
        for state in means:
            fewer = {key: means[key] for key in means if key != state}
            self.assertIs(are_means(TOGETHER, STRAIGHT, [1, 2], fewer), False)
            for other in (None, ((7, 7), ()), "x", ((0, 0), (((0, 1), False),))):
                self.assertIs(are_means(TOGETHER, STRAIGHT, [1, 2], {**fewer, other: means[state]}), False)
                self.assertIs(are_means(TOGETHER, STRAIGHT, [1, 2], {**means, other: (0, 1)}), False)

    def test_other_numbers(self):
        means = mean_rests(TOGETHER, STRAIGHT, [1, 2])
        for state, (top, bottom) in means.items():
            values = [None, (top + 1, bottom), (top, bottom + 1), (top - 1, bottom), (-top, -bottom), (2 * top, 2 * bottom),
                      [top, bottom], (top,), (top, bottom, 1), top, bottom, Fraction(top, bottom), top / bottom, str(top),
                      (float(top), bottom), (top, float(bottom)), ((top, bottom),), (str(top), bottom), {top: bottom},
                      (None, bottom), (top, None), (), True, False, [], {}, "", (top, 0), (10 ** 5000, 1)]
            if top == 0:
                values += [(False, 1), (0, True), (False, True), (0, 2), (0, -1)]
            if (top, bottom) == (1, 1):
                values += [(True, 1), (1, True), (True, True), (2, 2)]
            if top == 0:
                values.remove((-top, -bottom))
                values.append((0, -bottom))
            for value in values:
                self.assertIs(are_means(TOGETHER, STRAIGHT, [1, 2], {**means, state: value}), False, value)

    def test_none_in_its_place(self):
        threads = parsed("write x -> 0", "write y -> 0")
        means = mean_rests(TOGETHER, threads, [1, 1])
        self.assertEqual(set(means.values()), {None})
        self.assertIs(are_means(TOGETHER, threads, [1, 1], means), True)
        for state in means:
            for value in (0, (0, 1), False, "", (), (10 ** 900, 1)):
                self.assertIs(are_means(TOGETHER, threads, [1, 1], {**means, state: value}), False)

    def test_other_values(self):
        means = mean_rests(TOGETHER, STRAIGHT, [1, 2])
        for value in [*any_values(), list(means.items()), list(means), tuple(means.items()), [means]]:
            self.assertIs(are_means(TOGETHER, STRAIGHT, [1, 2], value), False)


class ManyStates(unittest.TestCase):
    def test_just_40_states(self):
        for layout, threads in FORTY:
            self.assertEqual(len(oracle.table(layout, threads)), 40)
            for odds in ([1, 1, 1], [9, 7, 8], [1, 9, 2]):
                begin = time.process_time()
                found = mean_rests(layout, threads, odds[:len(threads)])
                self.assertIs(are_means(layout, threads, odds[:len(threads)], found), True)
                self.assertLess(time.process_time() - begin, 2)
                self.assertEqual(len(found), 40)
                for mean in found.values():
                    self.assertTrue(mean is None or max(mean) < 10 ** 1000)

    def test_more_than_40_states(self):
        for layout, threads in FORTY_ONE:
            self.assertEqual(len(oracle.table(layout, threads)), 41)
        for layout, threads in FORTY_ONE + THOUSAND[:1] + [(XY, MANY)]:
            for odds in [[1] * len(threads), *any_values()]:
                self.assertRaises(TooManyStates, mean_rests, layout, threads, odds)
                for value in ({}, None, 7):
                    self.assertRaises(TooManyStates, are_means, layout, threads, odds, value)

    def test_unknown_cells_come_first(self):
        for threads in ([*MANY[:2], *parsed("read q")], parsed("read x", "read q")):
            for odds in ([1] * len(threads), None, []):
                for function, given in ((mean_rests, ()), (are_means, (None,)), (are_means, ({},))):
                    with self.assertRaises(UnknownCell) as caught:
                        function(OWN, threads, odds, *given)
                    self.assertEqual(caught.exception.cell, "q")

    def test_no_moves_can_come(self):
        for layout, threads, odds in CASES:
            none = [state for state, rest in rests(layout, threads).items() if rest == 0]
            found = mean_rests(layout, threads, odds)
            self.assertEqual([state for state, mean in found.items() if mean == (0, 1)], none)

    def test_within_a_second_or_so(self):
        eight = "\n".join(["write x -> 0 1 2 3 4 5 6 7 end"] * 8)
        for layout, threads in ((ONE, parsed(eight)), (ONE, parsed("write x -> 0 1 end\nread y -> 0 1 end",
                                                                   "write x -> 0 1 end\nread y -> 0 1 end"))):
            begin = time.process_time()
            found = mean_rests(layout, threads, [7, 9][:len(threads)])
            self.assertLess(time.process_time() - begin, 2)
            self.assertTrue(oracle.are_mean_rests(oracle.table(layout, threads), threads, [7, 9], found))


if __name__ == "__main__":
    unittest.main()
