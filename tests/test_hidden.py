"""Hidden layouts: points 23 to 26 and 28, and the interface of sharedlines/hidden.py."""

import itertools
import math
import random
import time
import unittest
from fractions import Fraction

from sharedlines import hidden
from sharedlines.compare import parting_run
from sharedlines.errors import BadMixture, TooManyStates, UnknownCell
from sharedlines.greatest import greatest
from sharedlines.hidden import (
    Mixture, are_blind_bounds, are_seeing_bounds, blind, blind_bounds, blind_run, revealed, seeing, seeing_plan,
    seeing_values)
from sharedlines.layouts import Layout
from tests import oracle, oracle_sides
from tests.cases import APART, MANY, ONE, OWN, TOGETHER, XY, YZ, parsed
from tests.mixtures import (
    BY_HAND, EXAMPLE, FIRST, FOUR_HUNDRED, MORE_THAN_400, SECOND, STEPWISE, THREE, TWO, TWO_HUNDRED_AND_ONE_JOINT,
    TWO_HUNDRED_JOINT, WIDE, XZ, layouts_of, mixed, parts_of, random_mixtures)
from tests.values import any_values

CASES = mixed(BY_HAND + random_mixtures(101, 120) + random_mixtures(102, 30, 4))
LARGE = mixed(TWO_HUNDRED_JOINT + FOUR_HUNDRED)
STRAIGHT = parsed("write x -> 1\nwrite x", "write y")
PAIR = Mixture(TWO)

# Pairs, threads, and the blind, the seeing and the revealed number.
NUMBERS = [
    (EXAMPLE[0], EXAMPLE[1], (5, 1), (11, 2), (11, 2)),
    # Together 3 moves and apart 2, by the same run.
    (TWO, STRAIGHT, (9, 4), (9, 4), (9, 4)),
    (TWO[:1], STRAIGHT, (3, 1), (3, 1), (3, 1)),
    (TWO[1:], STRAIGHT, (2, 1), (2, 1), (2, 1)),
    ([(1, TOGETHER), (1000, APART)], STRAIGHT, (2003, 1001), (2003, 1001), (2003, 1001)),
    ([(1000, TOGETHER), (1000, APART)], STRAIGHT, (5, 2), (5, 2), (5, 2)),
    (TWO, parsed("read x -> 1\nread y"), (7, 4), (7, 4), (7, 4)),
    (TWO, parsed("write x -> 0", "write y -> 0 end"), None, None, None),
    (TWO[1:], parsed("write x -> 0", "write y -> 0 end"), (2, 1), (2, 1), (2, 1)),
    # One of the layouts has no greatest number, however small its part.
    ([(1, TOGETHER), (1000, APART)], parsed("write x -> 0", "write y -> 0"), None, None, None),
    ([(1, TOGETHER), (2, WIDE)], STRAIGHT, (3, 1), (3, 1), (3, 1)),
    (*STEPWISE, (29, 6), (5, 1), (31, 6)),
    ([(1, XY), (1, XZ)], parsed("read x -> 1\nread y -> 2 3\nread y\nread z"), (2, 1), (2, 1), (2, 1)),
    # Neither who sees nor who does not knows where to go behind the first step.
    ([(3, XY), (1, XZ)], parsed("read x -> 1 2\nread y\nread z"), (7, 4), (7, 4), (2, 1)),
    ([(1, XY), (1, XZ)], parsed("read x -> 1 2\nread y\nread z"), (3, 2), (3, 2), (2, 1)),
]


class Mixtures(unittest.TestCase):
    def test_pairs(self):
        for pairs in (TWO, TWO[:1], THREE, EXAMPLE[0], [(1, XY), (1000, YZ)]):
            found = Mixture(pairs).pairs()
            self.assertEqual(found, pairs)
            self.assertEqual([type(found), type(found[0]), type(found[0][0])], [list, tuple, int])
            self.assertEqual(Mixture(found), Mixture(pairs))

    def test_the_list_is_copied(self):
        pairs = list(TWO)
        mixture = Mixture(pairs)
        pairs.clear()
        mixture.pairs().append((1, TOGETHER))
        self.assertEqual(mixture.pairs(), TWO)
        self.assertIsNot(mixture.pairs(), mixture.pairs())

    def test_equal(self):
        self.assertTrue(Mixture(TWO) == Mixture(list(TWO)))
        self.assertFalse(Mixture(TWO) != Mixture([(1, Layout({"y": 1, "x": 1}, 2, [["y", "x"]])), (3, APART)]))
        for pairs in (TWO[::-1], TWO[:1], [(2, TOGETHER), (3, APART)], [(1, WIDE), (3, APART)], TWO + [(1, WIDE)],
                      [(1, APART), (3, TOGETHER)], [(2, TOGETHER), (6, APART)]):
            self.assertFalse(Mixture(TWO) == Mixture(pairs))
            self.assertTrue(Mixture(TWO) != Mixture(pairs))
        for value in [*any_values(), TWO, TOGETHER, tuple(TWO)]:
            self.assertFalse(Mixture(TWO) == value)
            self.assertTrue(Mixture(TWO) != value)

    def test_no_mixtures(self):
        other_sizes = Layout({"x": 1, "y": 2}, 3, [["x", "y"]])
        other_cells = Layout({"x": 1, "z": 1}, 2, [["x", "z"]])
        wrong = [
            *any_values(), tuple(TWO), {1: TOGETHER}, TOGETHER, PAIR, dict(TWO[:0]), "ab", [TWO], [TOGETHER], [(TOGETHER, 1)],
            [(1,)], [(1, TOGETHER, 1)], [[1, TOGETHER]], [{1: TOGETHER}], [(1, None)], [(1, "x")], [(1, [["x"]])],
            [(0, TOGETHER)], [(1001, TOGETHER)], [(-1, TOGETHER)], [(True, TOGETHER)], [(False, TOGETHER)], [("1", TOGETHER)],
            [(None, TOGETHER)], [([1], TOGETHER)], [(1.0, TOGETHER)], [(10 ** 5000, TOGETHER)],
            # Equal layouts, beside each other or not.
            [(1, TOGETHER), (2, TOGETHER)], [(1, TOGETHER), (2, APART), (3, TOGETHER)], [(1, APART), (1, TOGETHER), (1, TOGETHER)],
            [(1, TOGETHER), (1, Layout({"y": 1, "x": 1}, 2, [["y", "x"]]))],
            # Other cells, or other sizes.
            [(1, TOGETHER), (1, other_sizes)], [(1, TOGETHER), (1, other_cells)], [(1, TOGETHER), (1, XY)],
            [(1, TOGETHER), (1, APART), (1, XY)], [(1, TOGETHER), (1, APART), (1, other_sizes)],
            # Four of them, and a wrong one behind right ones.
            [(1, XY), (1, YZ), (1, XZ), (1, OWN)], TWO + [(0, WIDE)], TWO + [None], [*TWO, [1, WIDE]], [(1, TOGETHER), (0, APART)],
        ]
        for number, value in enumerate(wrong):
            with self.subTest(number):
                self.assertRaises(BadMixture, Mixture, value)
        self.assertRaises(BadMixture, lambda: Mixture(pairs=[]))

    def test_parts_of_1_and_1000_and_other_rooms(self):
        self.assertEqual(Mixture(pairs=[(1, TOGETHER), (1000, WIDE)]).pairs(), [(1, TOGETHER), (1000, WIDE)])
        self.assertEqual(len(Mixture([(1000, XY), (1000, YZ), (1000, OWN)]).pairs()), 3)

    def test_interface(self):
        for name in ("__init__", "__eq__", "pairs"):
            self.assertIn(name, vars(Mixture))
        self.assertEqual(Mixture.__module__, "sharedlines.hidden")
        for name in ("blind", "revealed", "seeing", "blind_run", "blind_bounds", "are_blind_bounds", "seeing_values",
                     "are_seeing_bounds", "seeing_plan"):
            self.assertEqual(getattr(hidden, name).__module__, "sharedlines.hidden")


class Numbers(unittest.TestCase):
    def test_by_hand(self):
        for pairs, threads, *expected in NUMBERS:
            with self.subTest([str(program) for program in threads]):
                mixture = Mixture(pairs)
                self.assertEqual([blind(mixture, threads), seeing(mixture, threads), revealed(mixture, threads)], expected)

    def test_as_the_points_tell(self):
        nones = 0
        for mixture, pairs, threads in CASES + LARGE:
            parts, layouts = parts_of(pairs), layouts_of(pairs)
            found = [blind(mixture, threads), seeing(mixture, threads), revealed(mixture, threads)]
            self.assertEqual(found[2], oracle_sides.revealed(parts, layouts, threads))
            values = oracle_sides.blind_values(parts, layouts, threads)
            if values is None:
                nones += 1
                self.assertEqual(found, [None, None, None])
                continue
            number = Fraction(values[oracle_sides.joint_start(layouts, threads)], sum(parts))
            self.assertEqual(found[0], oracle_sides.pair_of(number))
            values = oracle_sides.seeing_values(parts, layouts, threads)
            number = Fraction(values[oracle_sides.situation_start(layouts, threads)], sum(parts))
            self.assertEqual(found[1], oracle_sides.pair_of(number))
            for fraction in found:
                self.assertEqual([type(fraction), type(fraction[0]), type(fraction[1])], [tuple, int, int])
                self.assertEqual([math.gcd(*fraction), fraction[1] > 0], [1, True])
        self.assertGreater(nones, 20)

    def test_all_runs_of_an_example(self):
        pairs, threads = EXAMPLE
        best = {place: Fraction(0) for place in ("blind", 0, 1)}
        todo = [((), [oracle.at_start(layout, threads) for layout in layouts_of(pairs)], (0, 0))]
        while todo:
            run, states, moves = todo.pop()
            best["blind"] = max(best["blind"], Fraction(sum(moves), 2))
            best[0], best[1] = max(best[0], moves[0]), max(best[1], moves[1])
            for one, two in zip(oracle.ahead(FIRST, threads, states[0]), oracle.ahead(SECOND, threads, states[1])):
                todo.append((run + (one[:2],), [one[3], two[3]], (moves[0] + one[2], moves[1] + two[2])))
        self.assertEqual([best["blind"], Fraction(best[0] + best[1], 2)], [5, Fraction(11, 2)])

    def test_one_after_the_other(self):
        """Point 28: the blind number is at most the seeing number, and this at most the revealed number."""
        kinds = set()
        for mixture, _, threads in CASES + LARGE:
            found = [blind(mixture, threads), seeing(mixture, threads), revealed(mixture, threads)]
            if None not in found:
                numbers = [Fraction(*fraction) for fraction in found]
                self.assertEqual(numbers, sorted(numbers))
                kinds.add((numbers[0] < numbers[1], numbers[1] < numbers[2]))
        self.assertEqual(kinds, set(itertools.product([True, False], repeat=2)))

    def test_one_layout(self):
        for layout in (TOGETHER, APART, WIDE):
            for threads in (STRAIGHT, parsed("write x -> 0", "write y -> 0 end"), parsed("read x -> 0 1\nwrite y")):
                most = greatest(layout, threads)
                expected = None if most is None else (most, 1)
                for part in (1, 7, 1000):
                    mixture = Mixture([(part, layout)])
                    self.assertEqual([function(mixture, threads) for function in (blind, seeing, revealed)], [expected] * 3)

    def test_layouts_that_cost_the_same(self):
        some = 0
        for mixture, pairs, threads in CASES:
            if len(pairs) == 2 and parting_run(pairs[0][1], pairs[1][1], threads) is None:
                some += 1
                numbers = [blind(mixture, threads), seeing(mixture, threads), revealed(mixture, threads)]
                most = greatest(pairs[0][1], threads)
                self.assertEqual(numbers, [None if most is None else (most, 1)] * 3)
        self.assertGreater(some, 10)

    def test_a_further_thread_never_makes_the_blind_number_less(self):
        some = 0
        for mixture, _, threads in CASES:
            for last in range(len(threads) if len(threads) > 1 else 0):
                both, alone = blind(mixture, threads), blind(mixture, [threads[last]])
                fewer = blind(mixture, threads[:last] + threads[last + 1:])
                if both is not None:
                    some += 1
                    self.assertGreaterEqual(Fraction(*both), Fraction(*fewer) + Fraction(*alone))
        self.assertGreater(some, 60)

    def test_proportional_parts(self):
        for mixture, pairs, threads in CASES[:40]:
            alike = Mixture([(1, layout) for layout in layouts_of(pairs)])
            many = Mixture([(1000, layout) for layout in layouts_of(pairs)])
            for function in (blind, seeing, revealed):
                self.assertEqual(function(alike, threads), function(many, threads))


class Blind(unittest.TestCase):
    def test_runs(self):
        for mixture, pairs, threads in CASES + LARGE:
            number, run = blind(mixture, threads), blind_run(mixture, threads)
            if number is None:
                self.assertIsNone(run)
                continue
            self.assertIs(type(run), list)
            self.assertTrue(all(type(step) is tuple and len(step) == 2 for step in run))
            total = sum(part * sum(oracle.follow(layout, threads, run)[0]) for part, layout in pairs)
            self.assertEqual(Fraction(total, sum(parts_of(pairs))), Fraction(*number))

    def test_bounds(self):
        for mixture, pairs, threads in CASES + LARGE:
            bounds = blind_bounds(mixture, threads)
            if blind(mixture, threads) is None:
                self.assertIsNone(bounds)
                table = oracle_sides.joint_table(layouts_of(pairs), threads)
                for number in (0, 5, 10 ** 30):
                    self.assertIs(are_blind_bounds(mixture, threads, {joint: number for joint in table}), False)
                continue
            self.assertIs(type(bounds), dict)
            self.assertTrue(all(type(number) is int for number in bounds.values()))
            self.assertEqual(set(bounds), set(oracle_sides.joint_table(layouts_of(pairs), threads)))
            self.assertIs(are_blind_bounds(mixture, threads, bounds), True)
            start = oracle_sides.joint_start(layouts_of(pairs), threads)
            self.assertEqual(Fraction(bounds[start], sum(parts_of(pairs))), Fraction(*blind(mixture, threads)))
            # No bounds have less at the beginning.
            self.assertIs(are_blind_bounds(mixture, threads, {**bounds, start: bounds[start] - 1}), False)

    def test_bounds_as_the_point_tells(self):
        counts = {True: 0, False: 0}
        source = random.Random(6)
        for mixture, pairs, threads in CASES[:80]:
            values = oracle_sides.blind_values(parts_of(pairs), layouts_of(pairs), threads)
            if values is None:
                continue
            table = oracle_sides.joint_table(layouts_of(pairs), threads)
            for _ in range(12):
                changed = dict(values)
                for joint in source.sample(list(values), min(len(values), source.randint(1, 3))):
                    changed[joint] += source.choice([-3, -1, 1, 2, 10])
                expected = min(changed.values()) >= 0 and all(
                    sum(part * move for part, move in zip(parts_of(pairs), step[2])) + changed[step[3]] <= changed[joint]
                    for joint, row in table.items() for step in row)
                counts[expected] += 1
                self.assertIs(are_blind_bounds(mixture, threads, changed), expected)
        self.assertGreater(min(counts.values()), 30)

    def test_parts_count(self):
        bounds = blind_bounds(PAIR, STRAIGHT)
        start = oracle_sides.joint_start([TOGETHER, APART], STRAIGHT)
        self.assertEqual(bounds[start], 9)
        self.assertIs(are_blind_bounds(Mixture([(1, TOGETHER), (4, APART)]), STRAIGHT, bounds), False)
        self.assertIs(are_blind_bounds(Mixture([(1, TOGETHER), (1, APART)]), STRAIGHT, bounds), True)


class Seeing(unittest.TestCase):
    def test_values(self):
        for mixture, pairs, threads in CASES + LARGE:
            found = seeing_values(mixture, threads)
            expected = oracle_sides.seeing_values(parts_of(pairs), layouts_of(pairs), threads)
            self.assertEqual(found, expected)
            self.assertEqual(found is None, seeing(mixture, threads) is None)
            if found is not None:
                self.assertIs(type(found), dict)
                self.assertTrue(all(type(number) is int for number in found.values()))
                self.assertIs(are_seeing_bounds(mixture, threads, found), True)

    def test_values_of_an_example(self):
        pairs = [(3, XY), (1, XZ)]
        threads = parsed("read x -> 1 2\nread y\nread z")
        found = seeing_values(Mixture(pairs), threads)
        free, held = ((), False), ((0,), False)
        start = (((0,), ((free, free), (free, free))), (0, 1))
        self.assertEqual(found[start], 7)
        self.assertEqual(found[(((1,), ((held, free), (held, free))), (0, 1))], 1)
        self.assertEqual(found[(((2,), ((held, free), (held, free))), (0, 1))], 3)
        self.assertEqual(found[(((None,), ((held, free), (held, held))), (1,))], 0)
        self.assertEqual(found[(((None,), ((held, free), (held, held))), (0,))], 0)

    def test_least_bounds(self):
        for mixture, _, threads in CASES[:60]:
            values = seeing_values(mixture, threads)
            if values is None:
                continue
            for situation in list(values)[:30]:
                self.assertIs(are_seeing_bounds(mixture, threads, {**values, situation: values[situation] - 1}), False)

    def test_bounds_as_the_point_tells(self):
        counts = {True: 0, False: 0}
        source = random.Random(7)
        for mixture, pairs, threads in CASES[:60]:
            parts, layouts = parts_of(pairs), layouts_of(pairs)
            values = oracle_sides.seeing_values(parts, layouts, threads)
            table = oracle_sides.situation_table(layouts, threads)
            if values is None:
                for number in (0, 5, 10 ** 30):
                    self.assertIs(are_seeing_bounds(mixture, threads, {situation: number for situation in table}), False)
                continue
            for _ in range(12):
                changed = dict(values)
                for situation in source.sample(list(values), min(len(values), source.randint(1, 3))):
                    changed[situation] += source.choice([-3, -1, 1, 2, 10])
                expected = min(changed.values()) >= 0 and all(
                    oracle_sides.worth(parts, changed, seen) <= changed[situation]
                    for situation, row in table.items() for _, _, seen in row)
                counts[expected] += 1
                self.assertIs(are_seeing_bounds(mixture, threads, changed), expected)
        self.assertGreater(min(counts.values()), 30)

    def test_plans(self):
        some = set()
        for mixture, pairs, threads in CASES + LARGE:
            plan = seeing_plan(mixture, threads)
            if seeing(mixture, threads) is None:
                self.assertIsNone(plan)
                continue
            self.assertIs(type(plan), dict)
            self.assertTrue(all(type(entry) is tuple and len(entry) == 3 for entry in plan.values()))
            self.assertTrue(all(type(entry[0]) is int and (entry[1] is None or type(entry[1]) is int)
                                for entry in plan.values()))
            self.assertTrue(oracle_sides.is_plan(parts_of(pairs), layouts_of(pairs), threads, plan))
            some |= {entry[2] for entry in plan.values()}
        self.assertGreater(len(some), 5)

    def test_following_a_plan(self):
        """By the plan, the mean of the moves is the seeing number."""
        for mixture, pairs, threads in CASES:
            plan, total = seeing_plan(mixture, threads), 0
            if plan is None:
                continue
            for place, (part, layout) in enumerate(pairs):
                situation = oracle_sides.situation_start(layouts_of(pairs), threads)
                table = oracle_sides.situation_table(layouts_of(pairs), threads)
                state = oracle.at_start(layout, threads)
                while situation in plan:
                    thread, target, _ = plan[situation]
                    moves, state = oracle.after(layout, threads, state, thread, target)
                    seen = [seen for one, other, seen in table[situation] if (one, other) == (thread, target)][0]
                    situation = seen[moves]
                    self.assertIn(place, situation[1])
                    total += part * moves
            self.assertEqual(Fraction(total, sum(parts_of(pairs))), Fraction(*seeing(mixture, threads)))

    def test_rings_without_a_move(self):
        # Both threads can go round without a move as long as they like, ahead of the moves of node 2.
        threads = parsed("read x -> 1\nread x -> 0 1 2\nwrite y", "read z -> 0 end")
        for pairs in ([(1, XY), (1, XZ)], THREE, [(1, OWN), (9, ONE)]):
            plan = seeing_plan(Mixture(pairs), threads)
            self.assertTrue(oracle_sides.is_plan(parts_of(pairs), layouts_of(pairs), threads, plan))


class WrongValues(unittest.TestCase):
    def tables(self):
        return [(are_blind_bounds, blind_bounds(PAIR, STRAIGHT)), (are_seeing_bounds, seeing_values(PAIR, STRAIGHT))]

    def test_other_values(self):
        for function, bounds in self.tables():
            for value in [*any_values(), list(bounds.items()), list(bounds), tuple(bounds.items()), [bounds], PAIR]:
                self.assertIs(function(PAIR, STRAIGHT, value), False)

    def test_numbers_that_are_no_integers_from_0(self):
        for function, bounds in self.tables():
            wide = {key: number + 100 * bool(number) for key, number in bounds.items()}
            for key in bounds:
                for value in (None, True, False, "9", "", (9,), [9], {9: 9}, [], -1, -(10 ** 5000), 9.0, (9, 1)):
                    self.assertIs(function(PAIR, STRAIGHT, {**wide, key: value}), False)

    def test_great_numbers(self):
        for function, bounds in self.tables():
            self.assertIs(function(PAIR, STRAIGHT, {key: 10 ** 900 * number for key, number in bounds.items()}), True)
            self.assertIs(function(PAIR, STRAIGHT, {key: 3 * number for key, number in bounds.items()}), True)
            self.assertIs(function(PAIR, STRAIGHT, {key: 10 ** 5000 for key in bounds}), False)

    def test_keys(self):
        for function, bounds in self.tables():
            for key in bounds:
                fewer = {other: bounds[other] for other in bounds if other != key}
                self.assertIs(function(PAIR, STRAIGHT, fewer), False)
                for other in (None, 0, "x", (), ((7, 7), ()), (key, 0), (key, (0, 1))):
                    self.assertIs(function(PAIR, STRAIGHT, {**fewer, other: bounds[key]}), False)
                    self.assertIs(function(PAIR, STRAIGHT, {**bounds, other: 0}), False)
            self.assertIs(function(PAIR, STRAIGHT, dict(reversed(list(bounds.items())))), True)

    def test_keys_that_are_equal(self):
        bounds = blind_bounds(PAIR, STRAIGHT)

        def places(some):
            return tuple(None if place is None else bool(place) for place in some)

        equal = {(places(joint[0]), joint[1]): number for joint, number in bounds.items()}
        self.assertIs(are_blind_bounds(PAIR, STRAIGHT, equal), True)
        values = seeing_values(PAIR, STRAIGHT)
        equal = {((places(joint[0]), joint[1]), tuple(bool(place) for place in possible)): number
                 for (joint, possible), number in values.items()}
        self.assertIs(are_seeing_bounds(PAIR, STRAIGHT, equal), True)

    def test_tables_of_the_other_kind(self):
        self.assertIs(are_blind_bounds(PAIR, STRAIGHT, seeing_values(PAIR, STRAIGHT)), False)
        self.assertIs(are_seeing_bounds(PAIR, STRAIGHT, blind_bounds(PAIR, STRAIGHT)), False)
        self.assertIs(are_seeing_bounds(PAIR, STRAIGHT, seeing_plan(PAIR, STRAIGHT)), False)


class ManyStates(unittest.TestCase):
    by_joint = [(function, []) for function in (blind, revealed, blind_run, blind_bounds)]
    by_joint += [(are_blind_bounds, [value]) for value in ({}, None, 7)]
    by_situations = [(function, []) for function in (seeing, seeing_values, seeing_plan)]
    by_situations += [(are_seeing_bounds, [value]) for value in ({}, None, 7)]

    def test_just_as_many_as_are_looked_at_within_a_second_or_so(self):
        for pairs, threads, situations in TWO_HUNDRED_JOINT:
            self.assertEqual(len(oracle_sides.joint_table(layouts_of(pairs), threads)), 200)
            self.assertEqual(len(oracle_sides.situation_table(layouts_of(pairs), threads)), situations)
        for pairs, threads, many in FOUR_HUNDRED:
            self.assertEqual(len(oracle_sides.joint_table(layouts_of(pairs), threads)), many)
            self.assertEqual(len(oracle_sides.situation_table(layouts_of(pairs), threads)), 400)
        for mixture, _, threads in LARGE:
            for function, given in self.by_joint + self.by_situations:
                begin = time.process_time()
                function(mixture, threads, *given)
                self.assertLess(time.process_time() - begin, 2)

    def test_more_than_200_joint_states(self):
        for pairs, threads, situations in TWO_HUNDRED_AND_ONE_JOINT:
            self.assertEqual(len(oracle_sides.joint_table(layouts_of(pairs), threads)), 201)
            self.assertLess(situations, 400)
            for function, given in self.by_joint + self.by_situations:
                with self.subTest(function.__name__):
                    self.assertRaises(TooManyStates, function, Mixture(pairs), threads, *given)

    def test_more_than_400_situations(self):
        for pairs, threads, many in MORE_THAN_400:
            mixture = Mixture(pairs)
            self.assertEqual(len(oracle_sides.joint_table(layouts_of(pairs), threads)), many)
            self.assertGreater(len(oracle_sides.situation_table(layouts_of(pairs), threads)), 400)
            for function, given in self.by_situations:
                with self.subTest(function.__name__):
                    self.assertRaises(TooManyStates, function, mixture, threads, *given)
            # The others do not look at situations.
            values = oracle_sides.blind_values(parts_of(pairs), layouts_of(pairs), threads)
            self.assertEqual(blind(mixture, threads) is None, values is None)
            self.assertEqual(revealed(mixture, threads),
                             oracle_sides.revealed(parts_of(pairs), layouts_of(pairs), threads))
            for function, given in self.by_joint:
                function(mixture, threads, *given)
        pairs, threads, _ = MORE_THAN_400[0]
        self.assertEqual(len(oracle_sides.situation_table(layouts_of(pairs), threads)), 401)

    def test_unknown_cells_come_first(self):
        for pairs in (TWO, TWO[:1], [(1, TOGETHER), (1, WIDE), (1, APART)]):
            for threads, cell in (([*MANY[:2], *parsed("read q")], "q"), (parsed("read x -> 1\nread r", "read q"), "r")):
                for function, given in self.by_joint + self.by_situations:
                    with self.assertRaises(UnknownCell) as caught:
                        function(Mixture(pairs), threads, *given)
                    self.assertEqual(caught.exception.cell, cell)
        for function, given in self.by_joint + self.by_situations:
            self.assertRaises(TooManyStates, function, Mixture([(1, ONE), (1, OWN)]), MANY, *given)


if __name__ == "__main__":
    unittest.main()
