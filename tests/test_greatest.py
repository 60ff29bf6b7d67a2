"""Numbers for all runs: points 8 to 10, and the interface of sharedlines/greatest.py."""

import unittest

from sharedlines.errors import TooManyStates
from sharedlines.greatest import are_bounds, endless, floors, greatest, greatest_run, least, least_run, rests
from tests import oracle
from tests.cases import APART, BY_HAND, MANY, THOUSAND, THOUSAND_AND_ONE, TOGETHER, XY, parsed, random_cases
from tests.values import any_values

THREADS = parsed("write x -> 1\nwrite x", "write y")
CASES = BY_HAND + [case[::2] for case in random_cases(11, 80)] + [case[::2] for case in random_cases(12, 40, 4, 2)]

# Threads on TOGETHER, and the greatest and the least number of moves.
NUMBERS = [
    (["write x -> 1\nwrite x", "write y"], 3, 2),
    (["read x"], 1, 1),
    (["write x"], 1, 1),
    (["read x -> 1\nwrite x"], 2, 2),
    (["write x -> 1\nread x"], 1, 1),
    # A thread that goes round without a move, and may end or may not.
    (["read x -> 0"], 1, None),
    (["read x -> 0 end"], 1, 1),
    (["write x -> 1\nwrite y -> 0"], 1, None),
    # Threads that go round and take the line from each other.
    (["write x -> 0", "write y -> 0 end"], None, None),
    (["write x -> 0 end", "write y -> 0 end"], None, 2),
    (["read x -> 0 end", "write y"], 3, 2),
    (["read x -> 0", "write y"], 3, None),
    (["read x -> 0", "read y -> 0", "read x -> 0"], 3, None),
    (["read x -> 0 1\nwrite x"], 2, 2),
    (["read x -> 1 end\nwrite x -> 1"], 2, 1),
    (["read x -> end\nwrite y -> 0"], 1, 1),
]


class Numbers(unittest.TestCase):
    def test_by_hand(self):
        for texts, most, fewest in NUMBERS:
            with self.subTest(texts):
                threads = parsed(*texts)
                self.assertEqual([greatest(TOGETHER, threads), least(TOGETHER, threads)], [most, fewest])

    def test_kinds(self):
        self.assertEqual([type(greatest(TOGETHER, THREADS)), type(least(TOGETHER, THREADS))], [int, int])

    def test_rests_and_floors_of_the_example(self):
        found = rests(TOGETHER, THREADS)
        self.assertEqual(found[((0, 0), (((), False),))], 3)
        self.assertEqual(found[((1, 0), (((0,), True),))], 2)
        self.assertEqual(found[((1, None), (((1,), True),))], 1)
        self.assertEqual(found[((None, None), (((0,), True),))], 0)
        self.assertEqual(len(found), 8)
        found = floors(TOGETHER, THREADS)
        self.assertEqual(found[((0, 0), (((), False),))], 2)
        self.assertEqual(found[((1, 0), (((0,), True),))], 1)
        self.assertEqual(found[((None, None), (((1,), True),))], 0)
        self.assertEqual(len(found), 8)

    def test_some_states_have_numbers_and_others_none(self):
        threads = parsed("write x -> 0 1\nread y -> 1", "write y -> 0 end")
        self.assertIn(None, rests(TOGETHER, threads).values())
        self.assertIn(0, rests(TOGETHER, threads).values())
        self.assertEqual(set(floors(TOGETHER, threads).values()), {None})
        threads = parsed("write x -> 1 end\nread y -> 1")
        self.assertEqual(sorted(map(str, floors(TOGETHER, threads).values())), ["0", "1", "None"])

    def test_states_where_all_threads_have_ended(self):
        for layout, threads in CASES:
            for found in (rests(layout, threads), floors(layout, threads)):
                for state, number in found.items():
                    if set(state[0]) == {None}:
                        self.assertEqual(number, 0)

    def test_as_the_points_tell(self):
        for layout, threads in CASES:
            steps = oracle.table(layout, threads)
            first = oracle.at_start(layout, threads)
            self.assertEqual(rests(layout, threads), oracle.rests(steps))
            self.assertEqual(floors(layout, threads), oracle.floors(steps))
            self.assertEqual(greatest(layout, threads), oracle.rests(steps)[first])
            self.assertEqual(least(layout, threads), oracle.floors(steps)[first])


class RunsThatShowThem(unittest.TestCase):
    def check_run(self, layout, threads, run, number):
        if number is None:
            self.assertIsNone(run)
            return None
        self.assertIs(type(run), list)
        self.assertTrue(all(type(step) is tuple and len(step) == 2 for step in run))
        moves, states = oracle.follow(layout, threads, run)
        self.assertEqual(sum(moves), number)
        return states[-1]

    def test_by_hand(self):
        for texts, most, fewest in NUMBERS:
            with self.subTest(texts):
                threads = parsed(*texts)
                self.check_run(TOGETHER, threads, greatest_run(TOGETHER, threads), most)
                self.check_run(TOGETHER, threads, least_run(TOGETHER, threads), fewest)

    def test_greatest_run(self):
        for layout, threads in CASES + THOUSAND:
            self.check_run(layout, threads, greatest_run(layout, threads), greatest(layout, threads))

    def test_least_run_is_whole(self):
        for layout, threads in CASES + THOUSAND:
            last = self.check_run(layout, threads, least_run(layout, threads), least(layout, threads))
            if last is not None:
                self.assertEqual(set(last[0]), {None})

    def test_endless(self):
        some = 0
        for layout, threads in CASES + THOUSAND:
            found = endless(layout, threads)
            self.assertEqual(found is None, greatest(layout, threads) is not None)
            if found is not None:
                some += 1
                self.assertIs(type(found), tuple)
                run, ring = found
                self.assertEqual([type(run), type(ring)], [list, list])
                moves, states = oracle.follow(layout, threads, run + ring)
                self.assertEqual(states[len(run)], states[-1])
                self.assertGreater(sum(moves[len(run):]), 0)
        self.assertGreater(some, 20)

    def test_endless_by_hand(self):
        self.assertIsNone(endless(TOGETHER, THREADS))
        self.assertIsNone(endless(TOGETHER, parsed("read x -> 0")))
        threads = parsed("write x -> 0", "write y -> 0 end")
        run, ring = endless(TOGETHER, threads)
        self.assertEqual(sorted(ring), [(0, 0), (1, 0)])
        self.assertGreater(len(run), 0)
        self.assertIsNone(endless(APART, threads))


class Bounds(unittest.TestCase):
    def test_rests_are_bounds_and_no_number_can_be_less(self):
        for layout, threads in CASES:
            bounds = rests(layout, threads)
            if None in bounds.values():
                continue
            self.assertIs(are_bounds(layout, threads, bounds), True)
            for state, number in bounds.items():
                self.assertIs(are_bounds(layout, threads, {**bounds, state: number - 1}), False)

    def test_greater_numbers(self):
        bounds = rests(TOGETHER, THREADS)
        self.assertIs(are_bounds(TOGETHER, THREADS, {state: 7 - len(str(state)) % 2 for state in bounds}), False)
        for greater in (lambda number: number + 10 ** 5000, lambda number: 2 * number):
            changed = {state: greater(number) for state, number in bounds.items()}
            self.assertIs(are_bounds(TOGETHER, THREADS, changed), True)
        last = ((None, None), (((1,), True),))
        self.assertIs(are_bounds(TOGETHER, THREADS, {**bounds, last: 1}), False)
        self.assertIs(are_bounds(TOGETHER, THREADS, {state: 3 for state in bounds}), False)

    def test_no_bounds_where_a_loop_has_a_move(self):
        threads = parsed("write x -> 0", "write y -> 0 end")
        for number in (0, 1, 100):
            bounds = {state: number for state in rests(TOGETHER, threads)}
            self.assertIs(are_bounds(TOGETHER, threads, bounds), False)

    def test_loops_without_a_move(self):
        threads = parsed("read x -> 0")
        first, second = ((0,), (((), False),)), ((0,), (((0,), False),))
        self.assertIs(are_bounds(TOGETHER, threads, {first: 1, second: 0}), True)
        self.assertIs(are_bounds(TOGETHER, threads, {second: 4, first: 5}), True)
        self.assertIs(are_bounds(TOGETHER, threads, {first: 0, second: 0}), False)
        self.assertIs(are_bounds(TOGETHER, threads, {first: 0, second: -1}), False)

    def test_order_of_keys_and_keys_that_are_equal(self):
        bounds = rests(TOGETHER, THREADS)
        self.assertIs(are_bounds(TOGETHER, THREADS, dict(reversed(list(bounds.items())))), True)
        equal = {(state[0], tuple((line[0], int(line[1])) for line in state[1])): bounds[state] for state in bounds}
        self.assertIs(are_bounds(TOGETHER, THREADS, equal), True)
        equal = {(tuple(None if place is None else bool(place) for place in state[0]), state[1]): bounds[state]
                 for state in bounds}
        self.assertIs(are_bounds(TOGETHER, THREADS, equal), True)

    def test_keys_left_out_or_too_many(self):
        bounds = rests(TOGETHER, THREADS)
        for state in bounds:
            fewer = {key: number for key, number in bounds.items() if key != state}
            self.assertIs(are_bounds(TOGETHER, THREADS, fewer), False)
            self.assertIs(are_bounds(TOGETHER, THREADS, {**fewer, ((7, 7), ()): 9}), False)
            self.assertIs(are_bounds(TOGETHER, THREADS, {**fewer, None: 9}), False)
        for key in (((None, None), (((), False),)), None, 0, "x", (), ((0, 0), (((0, 1), False),))):
            self.assertIs(are_bounds(TOGETHER, THREADS, {**bounds, key: 9}), False)

    def test_numbers_that_are_no_integers_from_0(self):
        bounds = {state: number + 1 for state, number in rests(TOGETHER, THREADS).items()}
        self.assertIs(are_bounds(TOGETHER, THREADS, bounds), True)
        for state in bounds:
            for value in (None, True, False, "9", "", (9,), [9], {9: 9}, [], -1, -(10 ** 5000)):
                self.assertIs(are_bounds(TOGETHER, THREADS, {**bounds, state: value}), False)
        rings = parsed("read x -> 0")
        first, second = ((0,), (((), False),)), ((0,), (((0,), False),))
        self.assertIs(are_bounds(TOGETHER, rings, {first: True, second: False}), False)
        self.assertIs(are_bounds(TOGETHER, rings, {first: 1, second: False}), False)

    def test_other_values(self):
        bounds = rests(TOGETHER, THREADS)
        for value in any_values() + [list(bounds.items()), list(bounds), tuple(bounds.items()), [bounds]]:
            self.assertIs(are_bounds(TOGETHER, THREADS, value), False)


class ManyStates(unittest.TestCase):
    def test_just_1000_states(self):
        for layout, threads in THOUSAND:
            found = rests(layout, threads)
            self.assertEqual([len(found), len(floors(layout, threads))], [1000, 1000])
            self.assertIs(are_bounds(layout, threads, found), None not in found.values())

    def test_more_than_1000_states(self):
        for layout, threads in THOUSAND_AND_ONE + [(XY, MANY)]:
            for function in (greatest, least, rests, floors, greatest_run, least_run, endless):
                self.assertRaises(TooManyStates, function, layout, threads)
            for value in [{state: 9 for state in oracle.table(*THOUSAND_AND_ONE[0])}] + any_values():
                self.assertRaises(TooManyStates, are_bounds, layout, threads, value)


if __name__ == "__main__":
    unittest.main()
