"""Two sides: points 21, 22 and 28, and the interface of sharedlines/caps.py."""

import itertools
import random
import time
import unittest

from sharedlines.caps import are_pressing, are_sparing, caps, pressing, sparing
from sharedlines.errors import TooManyStates, UnknownCell
from sharedlines.greatest import greatest, rests
from sharedlines.layouts import Layout
from sharedlines.steps import reached, start
from tests import oracle, oracle_sides
from tests.cases import (
    APART, BY_HAND, MANY, ONE, OWN, SHORT, THOUSAND, TOGETHER, XY, parsed, random_cases, random_rings)
from tests.values import any_values

SIDES = ("targets", "threads")
THREADS = parsed("write x -> 0 end", "write y -> 0 end")
STRAIGHT = parsed("write x -> 1\nwrite x", "write y")
FREE = ((), False)

# A layout, threads, and the caps of the start by "targets" and by "threads".
CAPS = [
    (Layout({"x": 1}, 1, [["x"]]), ["read x -> 0 1\nwrite x"], 1, 2),
    (TOGETHER, ["write x -> 0 end", "write y -> 0 end"], 2, 2),
    (TOGETHER, ["read x"], 1, 1),
    (TOGETHER, ["read x -> 0"], 1, 1),
    # The run need not end: the side of the threads lets the other thread wait for ever.
    (TOGETHER, ["read x -> 0", "write y"], 3, 1),
    (TOGETHER, ["write x -> 1\nwrite x", "write y"], 3, 2),
    (TOGETHER, ["write x -> 0", "write y -> 0"], None, 1),
    (TOGETHER, ["write x -> 0 1\nread y", "write y -> 0"], 5, 1),
    (TOGETHER, ["write x -> 0 end", "write y -> 0"], 3, 1),
    # The side of the targets ends a thread as soon as it can, or sends it round.
    (TOGETHER, ["write x -> 1 end\nread y -> 0", "write y -> 1 end\nread x -> 0"], 2, 2),
    (APART, ["write x -> 1\nread y -> 0", "write y -> 1\nread x -> 0"], None, 2),
    (APART, ["write x -> 1\nwrite y -> 0 1", "write y -> 0 end"], 4, 2),
    (TOGETHER, ["read x -> 0 1 2\nwrite y -> 0\nread y"], 1, 2),
    (XY, ["read x -> 1 2\nread z -> 0\nwrite x -> 0"], 2, 3),
    # Thread 0 can also be sent to where moves would come for ever.
    (TOGETHER, ["read x -> 0 1 end\nwrite x -> 1", "write y -> 0"], 3, 1),
    (XY, ["read x -> 1\nwrite z -> 0 end", "write z -> 1\nread x -> 0 end", "read z -> 0"], 7, 1),
]

# (layout, threads) with just 200 states that can be reached; the same with just 201.
TWO_HUNDRED = [
    (XY, parsed("write x -> 3\nwrite y -> 3\nread x -> 0 3\nread y -> 2 end", "write z -> 0 end",
                "read z -> 0 1 end\nwrite y -> 0")),
    (OWN, parsed("write y -> 0 end", "read z -> 1 2 3\nread x -> 3\nread y\nread x -> 3", "read y -> 0 1\nwrite z -> 0 1")),
    (OWN, parsed("read y -> end\nwrite x -> 1 end", "read y -> 0 2 end\nread x -> 0\nread x -> 0",
                 "read x -> 0 2 end\nwrite x -> 0 2\nwrite y -> 1")),
]
TWO_HUNDRED_AND_ONE = [
    (OWN, parsed("write y -> 1\nwrite y", "read y -> 1 2\nread x\nwrite x", "write x -> 0 2 end\nwrite z -> 0\nwrite y -> 0")),
    (TOGETHER, parsed("write y -> 0 end", "read y -> 1 2 end\nread y -> 0 2\nread y -> end",
                      "read x -> 0 2 end\nwrite y -> 0\nread x -> 0 1 2")),
    (OWN, parsed("write z -> 2 3 end\nread z -> 0 end\nwrite x -> 0 1\nwrite y -> 0 2 end", "write z -> 1\nread y -> 0 1 end")),
]


def small_cases():
    """Layouts and threads with at most 200 states."""
    cases = BY_HAND + TWO_HUNDRED + [(layout, parsed(*texts)) for layout, texts, _, _ in CAPS]
    cases += [case[::2] for case in random_cases(91, 90) + random_cases(92, 30, 4, 2)] + random_rings(93, 10)
    return [case for case in cases if len(reached(*case)) <= 200]


CASES = small_cases()


def straight(threads):
    """True if all targets are the only ones of their nodes."""
    return all(len(targets) == 1 for program in threads for _, _, targets in program.nodes)


class Caps(unittest.TestCase):
    def test_by_hand(self):
        for layout, texts, by_targets, by_threads in CAPS:
            with self.subTest(texts):
                threads = parsed(*texts)
                found = [caps(layout, threads, by)[start(layout, threads)] for by in SIDES]
                self.assertEqual(found, [by_targets, by_threads])

    def test_all_states_of_an_example(self):
        by = [((0,), True), ((1,), True)]
        self.assertEqual(caps(TOGETHER, THREADS, "targets"), {
            ((0, 0), (FREE,)): 2, ((0, 0), (by[0],)): 2, ((0, 0), (by[1],)): 2,
            ((None, 0), (by[0],)): 1, ((None, 0), (by[1],)): 0, ((0, None), (by[0],)): 0, ((0, None), (by[1],)): 1,
            ((None, None), (by[0],)): 0, ((None, None), (by[1],)): 0,
        })
        self.assertEqual(caps(TOGETHER, THREADS, "threads"), {
            ((0, 0), (FREE,)): 2, ((0, 0), (by[0],)): 1, ((0, 0), (by[1],)): 1,
            ((None, 0), (by[0],)): 1, ((None, 0), (by[1],)): 0, ((0, None), (by[0],)): 0, ((0, None), (by[1],)): 1,
            ((None, None), (by[0],)): 0, ((None, None), (by[1],)): 0,
        })

    def test_as_the_point_tells(self):
        found = set()
        for layout, threads in CASES:
            steps = oracle.table(layout, threads)
            for by in SIDES:
                numbers = caps(layout, threads, by)
                self.assertEqual(numbers, oracle_sides.caps(steps, by))
                self.assertTrue(all(cap is None or type(cap) is int for cap in numbers.values()))
                found |= {(by, cap) for cap in numbers.values()}
        self.assertGreaterEqual(found, set(itertools.product(SIDES, [0, 1, 2, 3, 4])))
        self.assertIn(("targets", None), found)
        # By "threads" one thread after the other can be run alone, so there is always a cap.
        self.assertNotIn(("threads", None), found)

    def test_all_threads_ended(self):
        for layout, threads in CASES:
            for by in SIDES:
                for state, cap in caps(layout, threads, by).items():
                    if set(state[0]) == {None}:
                        self.assertEqual(cap, 0)

    def test_at_most_the_rest(self):
        """Point 28, where None counts as greater than each number."""
        for layout, threads in CASES:
            numbers = rests(layout, threads)
            for by in SIDES:
                for state, cap in caps(layout, threads, by).items():
                    self.assertTrue(numbers[state] is None or cap is not None and cap <= numbers[state])
                    if by == "targets" and straight(threads):
                        self.assertEqual(cap, numbers[state])
        self.assertGreater(sum(straight(threads) for _, threads in CASES), 10)

    def test_at_least_the_number_of_threads(self):
        for layout, threads in CASES:
            cap = caps(layout, threads, "targets")[start(layout, threads)]
            self.assertTrue(cap is None or cap >= len(threads))

    def test_a_further_thread_never_makes_it_less(self):
        """Point 28, of caps by "targets" and of greatest numbers."""
        some = 0
        for layout, threads in CASES:
            if len(threads) < 2:
                continue
            for last in range(len(threads)):
                others = threads[:last] + threads[last + 1:]
                for number in (greatest, lambda one, programs: caps(one, programs, "targets")[start(one, programs)]):
                    both, fewer, alone = number(layout, threads), number(layout, others), number(layout, [threads[last]])
                    some += 1
                    if both is not None:
                        self.assertGreaterEqual(both, fewer + alone)
        self.assertGreater(some, 100)


class Tables(unittest.TestCase):
    def test_examples(self):
        layout, threads = Layout({"x": 1}, 1, [["x"]]), parsed("read x -> 0 1\nwrite x")
        first, held = ((0,), (FREE,)), ((0,), (((0,), False),))
        at_1, ended = ((1,), (((0,), False),)), ((None,), (((0,), True),))
        self.assertEqual(caps(layout, threads, "targets"), {first: 1, held: 0, at_1: 1, ended: 0})
        self.assertEqual(caps(layout, threads, "threads"), {first: 2, held: 1, at_1: 1, ended: 0})
        self.assertEqual(sparing(layout, threads, "targets"), {(first, 0): 0, (held, 0): 0, (at_1, 0): None})
        self.assertEqual(sparing(layout, threads, "threads"), {first: 0, held: 0, at_1: 0})
        table = pressing(layout, threads, "targets")
        self.assertEqual({state: thread for state, (thread, _) in table.items()}, {first: 0, at_1: 0})
        table = pressing(layout, threads, "threads")
        self.assertEqual({state: targets[0] for state, (targets, _) in table.items() if state != first},
                         {held: 1, at_1: None})
        self.assertEqual(set(table), {first, held, at_1})
        self.assertGreater(table[held][1], table[at_1][1])

    def test_sparing_tables(self):
        for layout, threads in CASES:
            steps = oracle.table(layout, threads)
            for by in SIDES:
                table = sparing(layout, threads, by)
                self.assertIs(type(table), dict)
                self.assertTrue(oracle_sides.is_sparing(steps, by, table))
                self.assertTrue(all(type(told) is int or by == "targets" and told is None for told in table.values()))
                self.assertIs(are_sparing(layout, threads, by, table), True)

    def test_pressing_tables(self):
        for layout, threads in CASES:
            steps = oracle.table(layout, threads)
            for by in SIDES:
                table = pressing(layout, threads, by)
                self.assertIs(type(table), dict)
                self.assertTrue(oracle_sides.is_pressing(steps, by, table))
                for entry in table.values():
                    self.assertEqual([type(entry), len(entry), type(entry[1])], [tuple, 2, int])
                    self.assertIs(type(entry[0]), int if by == "targets" else dict)
                self.assertIs(are_pressing(layout, threads, by, table), True)

    def test_playing_by_a_sparing_table(self):
        source = random.Random(4)
        for layout, threads in CASES[::2]:
            steps = oracle.table(layout, threads)
            for by in SIDES:
                numbers, table = caps(layout, threads, by), sparing(layout, threads, by)
                state, moves = start(layout, threads), 0
                most = numbers[state]
                for _ in range(60):
                    if most is None or not steps[state]:
                        break
                    some = oracle_sides.by_thread(steps[state])
                    thread = source.choice(list(some)) if by == "targets" else table[state]
                    targets = [table[(state, thread)]] if by == "targets" else [step[1] for step in some[thread]]
                    target = source.choice(targets)
                    step = [step for step in some[thread] if step[1] == target][0]
                    moves, state = moves + step[2], step[3]
                    self.assertLessEqual(moves + numbers[state], most)

    def test_playing_by_a_pressing_table(self):
        source = random.Random(5)
        for layout, threads in CASES[::2]:
            steps = oracle.table(layout, threads)
            for by in SIDES:
                numbers, table = caps(layout, threads, by), pressing(layout, threads, by)
                state, moves, many = start(layout, threads), 0, 0
                aim = 12 if numbers[state] is None else numbers[state]
                while moves < aim:
                    some = oracle_sides.by_thread(steps[state])
                    told, _ = table[state]
                    thread = told if by == "targets" else source.choice(list(some))
                    targets = [step[1] for step in some[thread]] if by == "targets" else [told[thread]]
                    target = source.choice(targets)
                    step = [step for step in some[thread] if step[1] == target][0]
                    moves, state, many = moves + step[2], step[3], many + 1
                    # By the countdowns, no state comes twice without a move or a greater cap in between.
                    self.assertLess(many, (aim + 1) * len(steps) * 4)


class AreSparing(unittest.TestCase):
    def test_each_other_value(self):
        for layout, threads in CASES[::3]:
            steps = oracle.table(layout, threads)
            for by in SIDES:
                table, numbers = sparing(layout, threads, by), oracle_sides.caps(steps, by)
                for key in list(table)[:15]:
                    for value in (None, 0, 1, 2, 3, -1):
                        changed = {**table, key: value}
                        expected = oracle_sides.is_sparing(steps, by, changed, numbers)
                        self.assertIs(are_sparing(layout, threads, by, changed), expected)

    def test_kinds(self):
        for by in SIDES:
            table = sparing(TOGETHER, THREADS, by)
            for key, told in table.items():
                for value in (True, False, "0", "end", [told], (told,), {told: told}, 7, -1, "", (), [], {}, 0.0, 10 ** 5000):
                    self.assertIs(are_sparing(TOGETHER, THREADS, by, {**table, key: value}), False, (by, key, value))
        # True and 1 are equal, but True is no integer.
        threads = parsed("write x -> 1\nread y -> 1", "read z -> 1\nread z -> 1")
        for by in SIDES:
            table = sparing(XY, threads, by)
            for key in [key for key, told in table.items() if told == 1]:
                self.assertIs(are_sparing(XY, threads, by, {**table, key: True}), False)

    def test_keys(self):
        for by in SIDES:
            table = sparing(TOGETHER, STRAIGHT, by)
            for key in table:
                fewer = {other: table[other] for other in table if other != key}
                self.assertIs(are_sparing(TOGETHER, STRAIGHT, by, fewer), False)
                for other in (None, "x", 0, (), (key, 0), ((7, 7), ()), (start(TOGETHER, STRAIGHT), 2)):
                    self.assertIs(are_sparing(TOGETHER, STRAIGHT, by, {**fewer, other: table[key]}), False)
                    self.assertIs(are_sparing(TOGETHER, STRAIGHT, by, {**table, other: 0}), False)
            ended = ((None, None), (((0,), True),))
            self.assertIs(are_sparing(TOGETHER, STRAIGHT, by, {**table, ended: 0}), False)
            self.assertIs(are_sparing(TOGETHER, STRAIGHT, by, dict(reversed(list(table.items())))), True)
        table = sparing(TOGETHER, STRAIGHT, "targets")
        equal = {((tuple(None if place is None else bool(place) for place in state[0]), state[1]), bool(thread)): told
                 for (state, thread), told in table.items()}
        self.assertIs(are_sparing(TOGETHER, STRAIGHT, "targets", equal), True)

    def test_states_without_a_cap(self):
        threads = parsed("write x -> 0", "write y -> 0")
        self.assertEqual(sparing(TOGETHER, threads, "targets"), {})
        self.assertIs(are_sparing(TOGETHER, threads, "targets", {}), True)
        self.assertIs(are_sparing(TOGETHER, threads, "targets", {(start(TOGETHER, threads), 0): 0}), False)
        self.assertIs(are_sparing(TOGETHER, threads, "threads", {}), False)

    def test_other_values(self):
        for by in SIDES:
            table = sparing(TOGETHER, STRAIGHT, by)
            for value in [*any_values(), list(table.items()), list(table), tuple(table.items()), [table], (table,)]:
                self.assertIs(are_sparing(TOGETHER, STRAIGHT, by, value), False)

    def test_tables_of_the_other_side(self):
        self.assertIs(are_sparing(TOGETHER, STRAIGHT, "targets", sparing(TOGETHER, STRAIGHT, "threads")), False)
        self.assertIs(are_sparing(TOGETHER, STRAIGHT, "threads", sparing(TOGETHER, STRAIGHT, "targets")), False)
        self.assertIs(are_sparing(TOGETHER, STRAIGHT, "threads", pressing(TOGETHER, STRAIGHT, "threads")), False)


class ArePressing(unittest.TestCase):
    def choices(self, row, by):
        some = oracle_sides.by_thread(row)
        if by == "targets":
            return list(some)
        return [dict(zip(some, targets)) for targets in itertools.product(*[[step[1] for step in some[thread]] for thread in some])]

    def test_each_other_choice_and_countdown(self):
        counts = {True: 0, False: 0}
        for layout, threads in CASES[::3]:
            steps = oracle.table(layout, threads)
            for by in SIDES:
                table, numbers = pressing(layout, threads, by), oracle_sides.caps(steps, by)
                for state in list(table)[:8]:
                    for choice in self.choices(steps[state], by)[:6]:
                        for countdown in (0, 1, table[state][1], table[state][1] + 1, 500):
                            changed = {**table, state: (choice, countdown)}
                            expected = oracle_sides.is_pressing(steps, by, changed, numbers)
                            counts[expected] += 1
                            self.assertIs(are_pressing(layout, threads, by, changed), expected)
        self.assertGreater(min(counts.values()), 200)

    def test_all_countdowns_alike(self):
        for layout, threads in CASES[::3]:
            steps = oracle.table(layout, threads)
            for by in SIDES:
                for countdown in (0, 3):
                    changed = {state: (choice, countdown) for state, (choice, _) in pressing(layout, threads, by).items()}
                    self.assertIs(are_pressing(layout, threads, by, changed), oracle_sides.is_pressing(steps, by, changed))
                more = {state: (choice, 10 * many + 10 ** 900) for state, (choice, many) in
                        pressing(layout, threads, by).items()}
                self.assertIs(are_pressing(layout, threads, by, more), True)

    def test_a_ring_without_a_move_is_no_way_on(self):
        # Thread 0 can go round without a move, and thread 1 waits with one.
        threads = parsed("read x -> 0", "write z")
        table = pressing(XY, threads, "targets")
        held = ((0, 0), (((0,), False), FREE))
        self.assertEqual(caps(XY, threads, "targets")[held], 1)
        self.assertEqual(table[held][0], 1)
        for countdown in (0, 1, 99):
            self.assertIs(are_pressing(XY, threads, "targets", {**table, held: (0, countdown)}), False)

    def test_kinds_of_entries(self):
        for by in SIDES:
            table = pressing(TOGETHER, STRAIGHT, by)
            for state, (choice, countdown) in table.items():
                for value in ([choice, countdown], (choice,), (choice, countdown, 0), (), choice, countdown, None, "ab", 0,
                              True, {}, [], {0: 0}, (choice, None), (choice, True), (choice, False), (choice, -1),
                              (choice, "0"), (choice, [0]), (choice, (0,)), (choice, 0.0), (choice, {}), (None, countdown),
                              ("0", countdown), ([], countdown), ({}, countdown), ((0,), countdown), (7, countdown),
                              (-1, countdown), (True, countdown), (False, countdown), ({0: 0, 1: 0, 2: 0}, countdown),
                              (10 ** 5000, countdown), ([choice], countdown)):
                    self.assertIs(are_pressing(TOGETHER, STRAIGHT, by, {**table, state: value}), False, (by, state, value))

    def test_kinds_of_targets(self):
        threads = parsed("write x -> 1\nread y -> 1", "read z -> 1\nread z -> 1")
        table = pressing(XY, threads, "threads")
        for state, (targets, countdown) in table.items():
            self.assertEqual(targets, {0: 1, 1: 1})
            for value in ({0: 1}, {1: 1}, {0: 1, 1: 1, 2: 1}, {0: 1, 2: 1}, {0: True, 1: 1}, {0: 1, 1: True}, {0: None, 1: 1},
                          {0: 0, 1: 1}, {0: "1", 1: 1}, {0: [1], 1: 1}, {}, [1, 1], (1, 1), "11", [(0, 1), (1, 1)], None,
                          {0: 1, "1": 1}, {0: 1, None: 1}, {0: {1: 1}, 1: 1}):
                self.assertIs(are_pressing(XY, threads, "threads", {**table, state: (value, countdown)}), False)
            # Keys are compared with ==.
            self.assertIs(are_pressing(XY, threads, "threads", {**table, state: ({False: 1, True: 1}, countdown)}), True)
            self.assertIs(are_pressing(XY, threads, "threads", {**table, state: ({1: 1, 0: 1}, countdown)}), True)

    def test_threads_that_have_ended(self):
        table = pressing(TOGETHER, STRAIGHT, "threads")
        state = ((1, None), (((1,), True),))
        self.assertEqual(table[state][0], {0: None})
        for targets in ({0: None, 1: None}, {1: None}, {}):
            self.assertIs(are_pressing(TOGETHER, STRAIGHT, "threads", {**table, state: (targets, 5)}), False)
        table = pressing(TOGETHER, STRAIGHT, "targets")
        self.assertEqual(table[state][0], 0)
        self.assertIs(are_pressing(TOGETHER, STRAIGHT, "targets", {**table, state: (1, 5)}), False)

    def test_keys(self):
        for by in SIDES:
            table = pressing(TOGETHER, STRAIGHT, by)
            entry = table[start(TOGETHER, STRAIGHT)]
            for key in table:
                fewer = {other: table[other] for other in table if other != key}
                self.assertIs(are_pressing(TOGETHER, STRAIGHT, by, fewer), False)
                for other in (None, "x", 0, (), ((7, 7), ()), (key, 0)):
                    self.assertIs(are_pressing(TOGETHER, STRAIGHT, by, {**fewer, other: table[key]}), False)
                    self.assertIs(are_pressing(TOGETHER, STRAIGHT, by, {**table, other: entry}), False)
            for zero in [state for state, cap in caps(TOGETHER, STRAIGHT, by).items() if cap == 0]:
                self.assertIs(are_pressing(TOGETHER, STRAIGHT, by, {**table, zero: entry}), False)
            equal = {(tuple(None if place is None else bool(place) for place in state[0]), state[1]): table[state]
                     for state in reversed(list(table))}
            self.assertIs(are_pressing(TOGETHER, STRAIGHT, by, equal), True)

    def test_other_values(self):
        for by in SIDES:
            table = pressing(TOGETHER, STRAIGHT, by)
            for value in [*any_values(), list(table.items()), list(table), tuple(table.items()), [table], (table,)]:
                self.assertIs(are_pressing(TOGETHER, STRAIGHT, by, value), False)
            self.assertIs(are_pressing(TOGETHER, STRAIGHT, by, pressing(TOGETHER, STRAIGHT, SIDES[by == "targets"])), False)

    def test_inner_dicts_are_new(self):
        table = pressing(XY, parsed("write x -> 0", "write y -> 0", "read z"), "threads")
        self.assertEqual(len({id(targets) for targets, _ in table.values()}), len(table))


class ManyStates(unittest.TestCase):
    def calls(self, layout, threads, by, value):
        return [(caps, (layout, threads, by)), (sparing, (layout, threads, by)), (pressing, (layout, threads, by)),
                (are_sparing, (layout, threads, by, value)), (are_pressing, (layout, threads, by, value))]

    def test_just_200_states_within_a_second_or_so(self):
        for layout, threads in TWO_HUNDRED:
            for by in SIDES:
                begin = time.process_time()
                self.assertEqual(len(caps(layout, threads, by)), 200)
                self.assertIs(are_sparing(layout, threads, by, sparing(layout, threads, by)), True)
                self.assertIs(are_pressing(layout, threads, by, pressing(layout, threads, by)), True)
                self.assertLess(time.process_time() - begin, 2)

    def test_more_than_200_states(self):
        for layout, threads in TWO_HUNDRED_AND_ONE:
            self.assertEqual(len(oracle.table(layout, threads)), 201)
        for layout, threads in TWO_HUNDRED_AND_ONE + THOUSAND[:2] + [(ONE, MANY)]:
            for by in SIDES:
                for value in any_values():
                    for function, given in self.calls(layout, threads, by, value):
                        self.assertRaises(TooManyStates, function, *given)

    def test_unknown_cells_come_first(self):
        layout = Layout(SHORT, 3, [["x", "y", "z"]])
        for threads in ([*MANY[:2], *parsed("read q")], parsed("read x", "read q", "read r")):
            for by in SIDES:
                for value in any_values():
                    for function, given in self.calls(layout, threads, by, value):
                        with self.assertRaises(UnknownCell) as caught:
                            function(*given)
                        self.assertEqual(caught.exception.cell, "q")


if __name__ == "__main__":
    unittest.main()
