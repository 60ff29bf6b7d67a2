"""Contests and searches: points 21, 22, 25 and 27, and the interface of sharedlines/sides.py."""

import random
import time
import unittest

from sharedlines.caps import caps, pressing, sparing
from sharedlines.errors import (
    BadReport, BadRun, BadTarget, LineError, NotPicked, NothingDone, Picked, TooManyStates, UnknownCell, UnknownThread)
from sharedlines.finding import finding, finding_numbers
from sharedlines.hidden import Mixture
from sharedlines.layouts import Layout
from sharedlines.sides import Contest, Search
from sharedlines.steps import start
from tests import oracle, oracle_sides
from tests.cases import APART, MANY, ONE, OWN, TOGETHER, XY, parsed
from tests.mixtures import (
    EXAMPLE, FOUR_HUNDRED, MORE_THAN_400, THREE, TWO, TWO_HUNDRED_AND_ONE_JOINT, TWO_HUNDRED_JOINT, layouts_of)
from tests.test_caps import CASES, SIDES, TWO_HUNDRED, TWO_HUNDRED_AND_ONE
from tests.test_finding import CASES as MIXED
from tests.values import any_values

THREADS = parsed("write x -> 0 end", "write y -> 0 end")
STRAIGHT = parsed("write x -> 1\nwrite x", "write y")
FREE = ((), False)


def all_of(live):
    """All that a contest tells."""
    return [live.state(), live.moves(), live.picked(), live.left(), live.advice()]


def told(search):
    """All that a search tells but for a step, of which there may be several."""
    return [search.possible(), search.needed()]


class Contests(unittest.TestCase):
    def test_example(self):
        live = Contest(TOGETHER, THREADS, "targets")
        live.pick(0)
        self.assertEqual([live.left(), live.steer(None), live.left(), live.moves()], [2, 1, 1, 1])

    def test_at_the_beginning(self):
        for by in SIDES:
            live = Contest(layout=TOGETHER, threads=STRAIGHT, by=by)
            self.assertEqual([live.state(), live.moves(), live.picked()], [start(TOGETHER, STRAIGHT), 0, None])
            self.assertEqual(live.left(), caps(TOGETHER, STRAIGHT, by)[start(TOGETHER, STRAIGHT)])
            self.assertRaises(NothingDone, live.back)
            self.assertRaises(NotPicked, live.steer, None)

    def test_methods_of_which_no_result_is_told(self):
        live = Contest(TOGETHER, THREADS, "targets")
        self.assertIsNone(live.pick(thread=1))
        self.assertEqual(live.picked(), 1)
        self.assertEqual(live.steer(target=0), 1)
        self.assertIsNone(live.back())

    def test_a_contest_by_hand(self):
        live = Contest(TOGETHER, STRAIGHT, "threads")
        self.assertEqual([live.left(), live.moves()], [2, 0])
        live.pick(1)
        self.assertEqual([live.picked(), live.left(), live.advice()], [1, 2, [None]])
        self.assertEqual([live.steer(None), live.state()], [1, ((0, None), (((1,), True),))])
        self.assertEqual([live.picked(), live.left(), live.moves(), live.advice()], [None, 1, 1, [0]])
        live.pick(0)
        self.assertEqual([live.left(), live.advice(), live.steer(1)], [1, [1], 1])
        live.pick(0)
        self.assertEqual([live.left(), live.advice(), live.steer(None)], [0, [], 0])
        self.assertEqual(all_of(live), [((None, None), (((0,), True),)), 2, None, 0, []])
        for thread in (0, 1, None):
            self.assertRaises(UnknownThread, live.pick, thread)
        self.assertRaises(NotPicked, live.steer, None)

    def test_picks(self):
        live = Contest(TOGETHER, STRAIGHT, "targets")
        before = all_of(live)
        for value in [*any_values(), 2, "0", (0,), [0], 0.0, 1.0, False, True]:
            if type(value) is int and value in (0, 1):
                continue
            with self.assertRaises(UnknownThread) as caught:
                live.pick(value)
            self.assertIs(caught.exception.name, value)
        self.assertEqual(all_of(live), before)
        live.pick(1)
        before = all_of(live)
        # Picked comes ahead of threads that are not there.
        for value in [*any_values(), 0, 1]:
            self.assertRaises(Picked, live.pick, value)
        self.assertEqual(all_of(live), before)
        live.steer(None)
        for value in (1, True, None, "1"):
            with self.assertRaises(UnknownThread) as caught:
                live.pick(value)
            self.assertIs(caught.exception.name, value)
        live.pick(0)

    def test_targets(self):
        threads = parsed("read x -> 0 2 end\nread y\nwrite x -> 1", "write y")
        live = Contest(TOGETHER, threads, "targets")
        for value in [*any_values(), 0, 1, 2]:
            self.assertRaises(NotPicked, live.steer, value)
        live.pick(0)
        before = all_of(live)
        for value in [*any_values(), 1, 3, "0", "end", (0,), [None], 0.0, 2.0, False, True]:
            if value is not None and not (type(value) is int and value == 0):
                self.assertRaises(BadTarget, live.steer, value)
        self.assertEqual(all_of(live), before)
        self.assertEqual([live.steer(2), live.moves(), type(live.moves())], [1, 1, int])
        live.pick(0)
        for value in (None, 0, 2, True):
            self.assertRaises(BadTarget, live.steer, value)
        self.assertEqual([live.steer(1), live.state()[0]], [1, (1, 0)])

    def test_back(self):
        live = Contest(TOGETHER, THREADS, "targets")
        told_so_far = [all_of(live)]
        for action, value in (("pick", 0), ("steer", 0), ("pick", 1), ("steer", None), ("pick", 0), ("steer", 0)):
            getattr(live, action)(value)
            told_so_far.append(all_of(live))
        self.assertRaises(UnknownThread, live.pick, 1)
        for expected in told_so_far[-2::-1]:
            live.back()
            self.assertEqual(all_of(live), expected)
        for _ in range(2):
            self.assertRaises(NothingDone, live.back)
            self.assertEqual(all_of(live), told_so_far[0])
        live.pick(1)
        live.back()
        self.assertRaises(NothingDone, live.back)
        live.pick(0)
        self.assertEqual([live.picked(), live.steer(None)], [0, 1])

    def test_back_from_a_step_picks_its_thread_again(self):
        live = Contest(TOGETHER, THREADS, "threads")
        live.pick(1)
        live.steer(0)
        live.back()
        self.assertEqual([live.picked(), live.state(), live.moves()], [1, start(TOGETHER, THREADS), 0])
        self.assertRaises(Picked, live.pick, 0)
        self.assertEqual([live.steer(None), live.state()[0]], [1, (0, None)])
        live.back()
        live.back()
        self.assertEqual([live.picked(), live.state()], [None, start(TOGETHER, THREADS)])

    def test_left_and_advice_by_hand(self):
        layout, threads = Layout({"x": 1}, 1, [["x"]]), parsed("read x -> 0 1\nwrite x")
        live = Contest(layout, threads, "targets")
        self.assertEqual([live.left(), live.advice()], [1, [0]])
        live.pick(0)
        self.assertEqual([live.left(), live.advice(), live.steer(0)], [1, [0], 1])
        # Here the side of the threads can come to no more moves.
        self.assertEqual([live.left(), live.advice()], [0, []])
        live.pick(0)
        self.assertEqual([live.left(), live.advice(), live.steer(1)], [0, [0], 0])
        self.assertEqual([live.left(), live.advice()], [1, [0]])
        live.pick(0)
        self.assertEqual([live.left(), live.advice(), live.steer(None), live.left()], [1, [None], 1, 0])
        live = Contest(layout, threads, "threads")
        self.assertEqual([live.left(), live.advice()], [2, [0]])
        live.pick(0)
        self.assertEqual(live.left(), 2)
        self.assertEqual([live.steer(1), live.left()], [1, 1])

    def test_without_a_cap(self):
        threads = parsed("write x -> 0", "write y -> 0")
        live = Contest(TOGETHER, threads, "targets")
        for _ in range(3):
            self.assertIsNone(live.left())
            thread = live.advice()[0]
            live.pick(thread)
            # There is no cap to keep to, so no sparing table tells anything.
            self.assertEqual([live.left(), live.advice()], [None, []])
            self.assertEqual(live.steer(0), 1)
        threads = parsed("write x -> 0 1\nwrite x -> 1", "write y -> 0 1 end\nread z")
        live = Contest(XY, threads, "targets")
        live.pick(1)
        self.assertIsNotNone(live.left())

    def test_a_picked_thread_with_targets_with_and_without_a_cap(self):
        # Thread 0 can go to where it loops with moves against thread 1 for ever, or end.
        threads = parsed("read x -> 0 1 end\nwrite x -> 1", "write y -> 0")
        live = Contest(TOGETHER, threads, "targets")
        expected = caps(TOGETHER, threads, "targets")
        live.pick(0)
        self.assertEqual(live.left(), 1 + min(cap for state, cap in expected.items() if state in
                                              [step[3] for step in oracle.ahead(TOGETHER, threads, live.state())
                                               if step[0] == 0] and cap is not None))
        self.assertEqual(live.advice(), [None])
        live.steer(1)
        self.assertIsNone(live.left())

    def test_as_the_points_tell(self):
        """At random, against the caps and the moves told by slower ways."""
        source = random.Random(8)
        for layout, threads in CASES[::2]:
            steps = oracle.table(layout, threads)
            for by in SIDES:
                numbers = oracle_sides.caps(steps, by)
                live = Contest(layout, threads, by)
                state, moves = oracle.at_start(layout, threads), 0
                for _ in range(12):
                    self.assertEqual([live.state(), live.moves(), live.picked(), live.left()],
                                     [state, moves, None, numbers[state]])
                    some = oracle_sides.by_thread(steps[state])
                    if not some:
                        break
                    thread = source.choice(list(some))
                    live.pick(thread)
                    self.check_left(live, by, numbers, some[thread])
                    self.assertEqual([live.state(), live.moves(), live.picked()], [state, moves, thread])
                    step = source.choice(some[thread])
                    self.assertEqual(live.steer(step[1]), step[2])
                    state, moves = step[3], moves + step[2]

    def check_left(self, live, by, numbers, steps):
        totals = [oracle_sides.infinite(numbers[step[3]]) + step[2] for step in steps]
        total = min(totals) if by == "targets" else max(totals)
        self.assertEqual(live.left(), None if total == float("inf") else total)

    def test_advice_keeps_to_the_caps(self):
        """Whoever follows the advice never gets more, or less, than what was left."""
        source = random.Random(9)
        for layout, threads in CASES[::2]:
            steps = oracle.table(layout, threads)
            for by in SIDES:
                for advised in ("threads", "targets"):
                    live = Contest(layout, threads, by)
                    first = live.left()
                    for _ in range(30):
                        some = oracle_sides.by_thread(steps[live.state()])
                        if not some:
                            break
                        live.pick(self.choice(source, live, advised == "threads", list(some)))
                        targets = [step[1] for step in some[live.picked()]]
                        live.steer(self.choice(source, live, advised == "targets", targets))
                        if first is not None and advised == by:
                            self.assertLessEqual(live.moves() + live.left(), first)
                        if advised != by:
                            self.assertGreaterEqual(live.moves() + oracle_sides.infinite(live.left()),
                                                    oracle_sides.infinite(first))

    def choice(self, source, live, is_advised, able):
        advice = live.advice()
        self.assertEqual(type(advice), list)
        self.assertLessEqual(len(advice), 1)
        if is_advised and advice:
            self.assertIn(advice[0], able)
            return advice[0]
        return source.choice(able)

    def test_advice_is_there_just_where_a_table_tells_something(self):
        for layout, threads in CASES[::4]:
            steps = oracle.table(layout, threads)
            for by in SIDES:
                numbers = oracle_sides.caps(steps, by)
                live = Contest(layout, threads, by)
                source = random.Random(3)
                for _ in range(10):
                    state = live.state()
                    if not steps[state]:
                        self.assertEqual(live.advice(), [])
                        break
                    is_told = numbers[state] != 0 if by == "targets" else numbers[state] is not None
                    self.assertEqual(len(live.advice()), int(is_told))
                    step = source.choice(steps[state])
                    live.pick(step[0])
                    is_told = numbers[state] is not None if by == "targets" else numbers[state] != 0
                    self.assertEqual(len(live.advice()), int(is_told))
                    live.steer(step[1])

    def test_advice_stays_the_same(self):
        for by in SIDES:
            threads = parsed("write x -> 0 1 end\nread y -> 0 1", "write y -> 0 1 end\nread x -> 0 1 end")
            live = Contest(TOGETHER, threads, by)
            found = {}
            source = random.Random(2)
            for _ in range(300):
                key = (live.state(), live.picked())
                self.assertEqual(found.setdefault(key, live.advice()), live.advice())
                live.advice().append(7)
                actions = ["back"] if live.moves() > 6 or set(live.state()[0]) == {None} else ["on", "on", "back"]
                if source.choice(actions) == "back" and key[0] != start(TOGETHER, threads):
                    live.back()
                elif live.picked() is None and set(live.state()[0]) != {None}:
                    live.pick(source.choice([k for k, place in enumerate(live.state()[0]) if place is not None]))
                elif live.picked() is not None:
                    live.steer(source.choice(threads[live.picked()].nodes[live.state()[0][live.picked()]][2]))
                else:
                    live.back()
            self.assertGreater(len(found), 10)

    def test_advice_is_from_tables(self):
        """What is told in all states together is a sparing table and a pressing table."""
        for layout, threads in CASES[::5]:
            steps = oracle.table(layout, threads)
            for by in SIDES:
                picks, steers = self.told_everywhere(layout, threads, by, steps)
                if by == "targets":
                    self.assertTrue(oracle_sides.is_sparing(steps, by, steers))
                    self.assertEqual(set(picks), set(pressing(layout, threads, by)))
                else:
                    self.assertTrue(oracle_sides.is_sparing(steps, by, picks))
                    self.assertEqual({state for state, _ in steers}, set(pressing(layout, threads, by)))

    def told_everywhere(self, layout, threads, by, steps):
        """Dicts of what a contest advises in each state, and in each state with each thread picked."""
        live = Contest(layout, threads, by)
        picks, steers, passed = {}, {}, set()

        def visit():
            state = live.state()
            passed.add(state)
            if live.advice():
                picks[state] = live.advice()[0]
            for thread, some in oracle_sides.by_thread(steps[state]).items():
                live.pick(thread)
                if live.advice():
                    steers[(state, thread)] = live.advice()[0]
                for _, target, _, behind in some:
                    if behind not in passed:
                        live.steer(target)
                        visit()
                        live.back()
                live.back()

        visit()
        self.assertEqual(passed, set(steps))
        return picks, steers

    def test_two_wrong_things_at_once(self):
        live = Contest(TOGETHER, STRAIGHT, "targets")
        self.assertRaises(NotPicked, live.steer, 7)
        live.pick(0)
        self.assertRaises(Picked, live.pick, 7)
        self.assertRaises(BadTarget, live.steer, 7)
        live.steer(1)
        self.assertRaises(NotPicked, live.steer, None)

    def test_what_was_handed_in_may_change(self):
        threads = list(THREADS)
        first, second = Contest(TOGETHER, threads, "targets"), Contest(APART, threads, "threads")
        threads.clear()
        first.pick(0)
        self.assertEqual([first.steer(0), second.picked(), second.moves()], [1, None, 0])
        second.pick(1)
        self.assertEqual([second.steer(None), first.state()], [1, ((0, 0), (((0,), True),))])
        self.assertEqual([len(first.state()[1]), len(second.state()[1])], [1, 2])

    def test_errors_when_it_begins(self):
        for layout, threads in TWO_HUNDRED:
            for by in SIDES:
                begin = time.process_time()
                live = Contest(layout, threads, by)
                self.assertEqual(live.left(), caps(layout, threads, by)[start(layout, threads)])
                self.assertLess(time.process_time() - begin, 2)
        for layout, threads in TWO_HUNDRED_AND_ONE + [(XY, MANY)]:
            for by in SIDES:
                self.assertRaises(TooManyStates, Contest, layout, threads, by)
        for threads in (parsed("read x", "read q"), [*MANY[:2], *parsed("read x -> 1\nwrite q")]):
            for by in SIDES:
                with self.assertRaises(UnknownCell) as caught:
                    Contest(OWN, threads, by)
                self.assertEqual(caught.exception.cell, "q")

    def test_many_steps_and_all_of_them_back(self):
        live = Contest(TOGETHER, parsed("write x -> 0", "write y -> 0"), "targets")
        for number in range(1500):
            live.pick(number % 2)
            self.assertEqual(live.steer(0), 1)
        self.assertEqual(live.moves(), 1500)
        for _ in range(3000):
            live.back()
        self.assertEqual([live.moves(), live.picked(), live.state()], [0, None, ((0, 0), (FREE,))])
        self.assertRaises(NothingDone, live.back)

    def test_interface(self):
        for name in ("state", "moves", "picked", "pick", "steer", "left", "advice", "back"):
            self.assertIn(name, vars(Contest))
        for name in ("possible", "report", "needed", "next_step"):
            self.assertIn(name, vars(Search))
        self.assertEqual([Contest.__module__, Search.__module__], ["sharedlines.sides"] * 2)


class Searches(unittest.TestCase):
    def test_at_the_beginning(self):
        for pairs in (TWO, TWO[:1], THREE):
            search = Search(mixture=Mixture(pairs), threads=parsed("read x -> 1\nread y"))
            self.assertEqual(search.possible(), list(range(len(pairs))))
            self.assertEqual(search.needed(), {1: 0, 2: 2, 3: None}[len(pairs)])
            self.assertEqual(search.next_step(), (0, 1) if len(pairs) == 2 else None)

    def test_example(self):
        pairs, threads = EXAMPLE
        for place in (0, 1):
            search = Search(Mixture(pairs), threads)
            state = oracle.at_start(pairs[place][1], threads)
            for needed in (3, 2, 1):
                self.assertEqual([search.possible(), search.needed()], [[0, 1], needed])
                thread, target = search.next_step()
                moves, state = oracle.after(pairs[place][1], threads, state, thread, target)
                self.assertIsNone(search.report(thread, target, moves))
            self.assertEqual([search.possible(), search.needed(), search.next_step()], [[place], 0, None])

    def test_reports_go_on_when_one_layout_is_possible(self):
        search = Search(Mixture(TWO), parsed("read x -> 1\nread y -> 0"))
        search.report(thread=0, target=1, moves=1)
        self.assertEqual(told(search), [[0, 1], 1])
        search.report(0, 0, 0)
        self.assertEqual(told(search), [[0], 0])
        # Together, no more moves come.
        self.assertRaises(BadReport, search.report, 0, 1, 1)
        for target in (1, 0, 1):
            search.report(0, target, 0)
        self.assertEqual(told(search), [[0], 0])

    def test_searches_at_their_ends(self):
        search = Search(Mixture(TWO), parsed("read x"))
        self.assertEqual([*told(search), search.next_step()], [[0, 1], None, None])
        search.report(0, None, 1)
        self.assertEqual([*told(search), search.next_step()], [[0, 1], None, None])
        for thread in (0, 1, None):
            with self.assertRaises(BadRun) as caught:
                search.report(thread, None, 0)
            self.assertEqual(caught.exception.index, 1)

    def test_a_wrong_way_loses_the_finding_number(self):
        threads = parsed("read x -> 1 2\nread y\nread x")
        search = Search(Mixture(TWO), threads)
        self.assertEqual([search.needed(), search.next_step()], [2, (0, 1)])
        search.report(0, 2, 1)
        self.assertEqual([*told(search), search.next_step()], [[0, 1], None, None])

    def test_no_steps(self):
        threads = parsed("read x -> 1 2 end\nread y\nwrite x", "write y")
        search = Search(Mixture(TWO), threads)
        wrong = [(value, None) for value in any_values()] + [(value, 1) for value in any_values()]
        wrong = [(thread, target) for thread, target in wrong if not (type(thread) is int and thread == 0)]
        wrong += [(0, value) for value in any_values() if value is not None]
        wrong += [(0, 0), (0, 3), (0, "1"), (0, True), (0, (1,)), (0, [1]), (True, None), (False, 1), (False, None),
                  (1, 0), (1, 1), (2, None), (-1, None), ("0", 1), ((0,), 1), ([0], 1), (0.0, 1), (0, 1.0), (None, None)]
        for steps in range(2):
            before = told(search)
            for thread, target in wrong:
                for moves in (0, 1, None, 7):
                    if steps == 1 and (thread, target) == (0, None):
                        continue
                    with self.assertRaises(BadRun) as caught:
                        search.report(thread, target, moves)
                    self.assertEqual(caught.exception.index, steps)
                    self.assertIs(type(caught.exception.index), int)
            self.assertEqual(told(search), before)
            if steps == 0:
                search.report(0, 1, 1)
        for target in (1, 2, 0):
            self.assertRaises(BadRun, search.report, 0, target, 1)
        search.report(0, None, 1)
        self.assertEqual(told(search), [[1], 0])

    def test_wrong_reports(self):
        search = Search(Mixture(TWO), parsed("read x -> 1\nread y"))
        before = told(search)
        for value in [*any_values(), 2, -1, "1", (1,), [1], 1.0, 0.0, True, False, 0]:
            self.assertRaises(BadReport, search.report, 0, 1, value)
        self.assertEqual(told(search), before)
        search.report(0, 1, 1)
        for value in (True, False, 2, None):
            self.assertRaises(BadReport, search.report, 0, None, value)
        self.assertEqual(told(search), [[0, 1], 1])
        search.report(0, None, 1)
        self.assertEqual(told(search), [[1], 0])

    def test_reports_that_fit_none_of_the_possible_layouts(self):
        threads = parsed("read x -> 1\nread y -> 2\nread z -> 3\nread z")
        search = Search(Mixture(THREE), threads)
        self.assertRaises(BadReport, search.report, 0, 1, 0)
        search.report(0, 1, 1)
        search.report(0, 2, 0)
        self.assertEqual(search.possible(), [0])
        # In the others z would be free, but they are not possible any more.
        self.assertRaises(BadReport, search.report, 0, 3, 0)
        search.report(0, 3, 1)
        self.assertRaises(BadReport, search.report, 0, None, 1)
        search.report(0, None, 0)
        self.assertEqual(told(search), [[0], 0])

    def test_lists_are_new(self):
        search = Search(Mixture(THREE), parsed("read x -> 1\nread y"))
        search.possible().clear()
        self.assertEqual(search.possible(), [0, 1, 2])

    def test_as_the_points_tell(self):
        """Each layout in turn is the hidden one, and steps are made at random."""
        source = random.Random(10)
        for mixture, pairs, threads in MIXED:
            table = oracle_sides.situation_table(layouts_of(pairs), threads)
            numbers = oracle_sides.finding_numbers(table)
            for place, (_, layout) in enumerate(pairs):
                search = Search(mixture, threads)
                situation = oracle_sides.situation_start(layouts_of(pairs), threads)
                state = oracle.at_start(layout, threads)
                for many in range(10):
                    self.assertEqual(told(search), [list(situation[1]), numbers[situation]])
                    self.check_next_step(search, table, numbers, situation)
                    with self.assertRaises(BadRun) as caught:
                        search.report(3, None, 0)
                    self.assertEqual(caught.exception.index, many)
                    if not table[situation]:
                        break
                    thread, target, seen = source.choice(table[situation])
                    moves, state = oracle.after(layout, threads, state, thread, target)
                    if 1 - moves not in seen:
                        self.assertRaises(BadReport, search.report, thread, target, 1 - moves)
                    search.report(thread, target, moves)
                    situation = seen[moves]
                    self.assertIn(place, search.possible())

    def check_next_step(self, search, table, numbers, situation):
        found = search.next_step()
        if not numbers[situation]:
            self.assertIsNone(found)
            return
        self.assertEqual([type(found), len(found)], [tuple, 2])
        seen = [seen for thread, target, seen in table[situation] if (thread, target) == found]
        behind = [numbers[other] for other in seen[0].values()]
        self.assertNotIn(None, behind)
        self.assertEqual(max(behind), numbers[situation] - 1)

    def test_following_the_steps_finds_the_layout_in_time(self):
        some = 0
        for mixture, pairs, threads in MIXED:
            needed = finding(mixture, threads)
            for place, (_, layout) in enumerate(pairs if needed is not None else []):
                search = Search(mixture, threads)
                state = oracle.at_start(layout, threads)
                many = 0
                while search.next_step() is not None:
                    thread, target = search.next_step()
                    moves, state = oracle.after(layout, threads, state, thread, target)
                    search.report(thread, target, moves)
                    many += 1
                    self.assertLessEqual(many + search.needed(), needed)
                self.assertEqual(search.possible(), [place])
                some += many
        self.assertGreater(some, 100)

    def test_what_was_handed_in_may_change(self):
        threads, pairs = parsed("read x -> 1\nread y"), list(TWO)
        mixture = Mixture(pairs)
        search, other = Search(mixture, threads), Search(mixture, threads)
        threads.clear()
        pairs.clear()
        search.report(0, 1, 1)
        search.report(0, None, 0)
        self.assertEqual([told(search), told(other)], [[[0], 0], [[0, 1], 2]])

    def test_errors_when_it_begins(self):
        for pairs, threads, _ in TWO_HUNDRED_JOINT + FOUR_HUNDRED:
            begin = time.process_time()
            search = Search(Mixture(pairs), threads)
            self.assertEqual(search.needed(), finding(Mixture(pairs), threads))
            self.assertLess(time.process_time() - begin, 2)
        for pairs, threads, _ in TWO_HUNDRED_AND_ONE_JOINT + MORE_THAN_400 + [([(1, ONE), (1, OWN)], MANY, 0)]:
            self.assertRaises(TooManyStates, Search, Mixture(pairs), threads)
        for threads in (parsed("read x", "read q"), [*MANY[:2], *parsed("read x -> 1\nwrite q")]):
            with self.assertRaises(UnknownCell) as caught:
                Search(Mixture(TWO), threads)
            self.assertEqual(caught.exception.cell, "q")

    def test_all_errors_are_line_errors(self):
        search, live = Search(Mixture(TWO), STRAIGHT), Contest(TOGETHER, STRAIGHT, "targets")
        for call in (lambda: search.report(0, 7, 1), lambda: search.report(0, 1, 7), lambda: live.steer(1),
                     lambda: live.pick(7), live.back):
            self.assertRaises(LineError, call)
        self.assertEqual(len(sparing(TOGETHER, STRAIGHT, "threads")), len(finding_numbers(Mixture(TWO[:1]), STRAIGHT)) - 2)


if __name__ == "__main__":
    unittest.main()
