"""Live runs: point 17, and the interface of sharedlines/live.py."""

import random
import time
import unittest

from sharedlines.errors import (
    BadLine, BadTarget, LineError, NameTaken, TooManyStates, TooManyThreads, UnknownCell, UnknownMark, UnknownThread)
from sharedlines.layouts import Layout
from sharedlines.live import Live
from sharedlines.programs import Program
from tests import oracle
from tests.cases import (
    APART, MANY, ONE, OWN, THOUSAND, THOUSAND_AND_ONE, TOGETHER, XY, YZ, parsed, random_cases, random_program)
from tests.live_model import Model
from tests.values import any_values

FREE = ((), False)
WRITE_TWICE = Program.parse("write x -> 1\nwrite x")
WRITE_Y = Program.parse("write y")
READER = Program.parse("read x -> 1\nread y -> 2\nread z -> 0 end")
WRITER = Program.parse("write x -> 1\nwrite y -> 2\nwrite z -> 0 end")


def all_of(live):
    """All that a live run tells, but for its marks."""
    return [live.layout(), live.names(), live.state(), live.moves(), live.by_thread()]


def held(live):
    return live.state()[1]


def with_three(layout):
    """A live run of a reader, a writer and one more reader, which hold lines."""
    live = Live(layout)
    for name, program in (("a", READER), ("b", WRITER), ("c", READER)):
        live.come(name, program)
    for name, target in (("b", 1), ("b", 2), ("b", 0), ("a", 1), ("c", 1), ("c", 2)):
        live.step(name, target)
    return live


class Beginning(unittest.TestCase):
    def test_without_threads(self):
        live = Live(XY)
        self.assertEqual(all_of(live), [XY, [], ((), (FREE, FREE)), 0, {}])
        self.assertEqual([live.left(), live.least_left()], [0, 0])
        self.assertEqual([type(live.moves()), type(live.left()), type(live.least_left())], [int, int, int])
        for error, call in ((UnknownThread, lambda: live.step("a", None)), (UnknownThread, lambda: live.go("a")),
                            (UnknownMark, lambda: live.back(0))):
            self.assertRaises(error, call)

    def test_cells_can_be_moved_without_threads(self):
        live = Live(XY)
        live.move_cell("y", 1)
        self.assertEqual([live.layout(), live.state()], [YZ, ((), (FREE, FREE))])
        live.move_cell("y", 2)
        self.assertEqual([live.layout().lines, live.state()], [OWN.lines, ((), (FREE, FREE, FREE))])

    def test_example(self):
        live = Live(TOGETHER)
        live.come("a", WRITE_TWICE)
        live.come("b", WRITE_Y)
        self.assertEqual([live.step("a", 1), live.step("b", None), live.left(), live.moves()], [1, 1, 1, 2])

    def test_returned_lists_and_dicts_are_new(self):
        live = with_three(XY)
        before = all_of(live)
        live.names().clear()
        live.by_thread().clear()
        live.by_thread()["a"] = 7
        self.assertEqual(all_of(live), before)

    def test_methods_of_which_no_result_is_told(self):
        live = Live(XY)
        mark = live.mark()
        self.assertIsNone(live.come("a", READER))
        self.assertIsNone(live.move_cell("x", 1))
        self.assertIsNone(live.move_cell("x", live.layout().line_of("x")))
        self.assertIsNone(live.go("a"))
        self.assertIsNone(live.back(mark))

    def test_arguments_by_name(self):
        live = Live(layout=XY)
        live.come(name="a", program=READER)
        self.assertEqual(live.step(name="a", target=1), 1)
        live.move_cell(cell="x", line=1)
        live.mark()
        live.go(name="a")
        live.back(number=0)
        self.assertEqual(live.names(), ["a"])


class ComingAndGoing(unittest.TestCase):
    def test_numbers(self):
        live = Live(XY)
        for number, name in enumerate(["b", "", "a long name \u00e9"]):
            live.come(name, READER)
            self.assertEqual(live.state(), ((0,) * (number + 1), (FREE, FREE)))
        self.assertEqual(live.names(), ["b", "", "a long name \u00e9"])
        live.step("", 1)
        self.assertEqual(live.state(), ((0, 1, 0), (((1,), False), FREE)))
        live.go("b")
        self.assertEqual([live.names(), live.state()], [["", "a long name \u00e9"], ((1, 0), (((0,), False), FREE))])

    def test_who_comes_holds_nothing_and_begins_without_moves(self):
        live = with_three(ONE)
        live.go("b")
        live.come("b", WRITER)
        self.assertEqual(live.names(), ["a", "c", "b"])
        self.assertEqual(live.state(), ((1, 2, 0), (((0, 1), False),)))
        self.assertEqual(live.by_thread(), {"a": 1, "c": 1, "b": 0})
        self.assertEqual(list(live.by_thread()), ["a", "c", "b"])
        self.assertEqual(live.moves(), 3)

    def test_who_goes_holds_nothing_any_more(self):
        live = with_three(XY)
        self.assertEqual(live.state(), ((1, 0, 2), (((0, 1, 2), False), ((1,), True))))
        live.go("b")
        self.assertEqual(live.state(), ((1, 2), (((0, 1), False), FREE)))
        live = with_three(XY)
        live.go("a")
        self.assertEqual(live.state(), ((0, 2), (((0, 1), False), ((0,), True))))
        live.go("b")
        self.assertEqual(live.state(), ((2,), (((0,), False), FREE)))
        live.go("c")
        self.assertEqual(live.state(), ((), (FREE, FREE)))
        self.assertEqual([live.moves(), live.left(), live.least_left(), live.names()], [4, 0, 0, []])

    def test_one_reader_that_is_left_does_not_own(self):
        live = Live(TOGETHER)
        live.come("a", Program.parse("read x"))
        live.come("b", Program.parse("read x -> 1\nwrite x"))
        live.step("a", None)
        live.step("b", 1)
        live.go("a")
        self.assertEqual(live.state(), ((1,), (((0,), False),)))
        self.assertEqual([live.left(), live.step("b", None)], [1, 1])

    def test_an_owner_goes_on_owning_when_others_go(self):
        live = Live(TOGETHER)
        live.come("a", WRITE_Y)
        live.come("b", WRITE_TWICE)
        live.step("a", None)
        live.step("b", 1)
        live.go("a")
        self.assertEqual(live.state(), ((1,), (((0,), True),)))
        self.assertEqual([live.left(), live.step("b", None), live.moves()], [0, 0, 2])

    def test_a_thread_that_has_ended_goes_on_holding_until_it_goes(self):
        live = Live(TOGETHER)
        live.come("a", WRITE_Y)
        live.step("a", None)
        self.assertEqual(live.state(), ((None,), (((0,), True),)))
        live.come("b", WRITE_Y)
        self.assertEqual(live.state(), ((None, 0), (((0,), True),)))
        live.go("a")
        self.assertEqual(live.state(), ((0,), (FREE,)))

    def test_names_that_went_can_come_again(self):
        live = Live(TOGETHER)
        for _ in range(5):
            live.come("a", WRITE_Y)
            self.assertRaises(NameTaken, live.come, "a", WRITE_Y)
            self.assertEqual(live.by_thread(), {"a": 0})
            self.assertEqual(live.step("a", None), 1)
            self.assertEqual(live.by_thread(), {"a": 1})
            live.go("a")
        self.assertEqual([live.moves(), live.by_thread()], [5, {}])

    def test_errors_of_come_in_their_order(self):
        live = Live(TOGETHER)
        unknown = Program.parse("read x -> 1\nread r -> 2\nread q")
        for name in ("a", "b", "c"):
            with self.assertRaises(UnknownCell) as caught:
                live.come(name, unknown)
            self.assertEqual(caught.exception.cell, "r")
            live.come(name, WRITE_Y)
        before = all_of(live)
        for program in (WRITE_Y, unknown):
            for name in ("a", "b", "c"):
                with self.assertRaises(NameTaken) as caught:
                    live.come(name, program)
                self.assertEqual(caught.exception.name, name)
            self.assertRaises(TooManyThreads, live.come, "d", program)
            self.assertRaises(TooManyThreads, live.come, "", program)
        self.assertEqual(all_of(live), before)
        live.go("b")
        with self.assertRaises(UnknownCell) as caught:
            live.come("d", unknown)
        self.assertEqual(caught.exception.cell, "r")
        live.come("d", WRITE_Y)
        self.assertEqual(live.names(), ["a", "c", "d"])

    def test_any_value_as_a_name_that_is_not_there(self):
        live = with_three(XY)
        before = all_of(live)
        for value in [*any_values(), "A", "ab", ["a"], ("a",), {"a": 1}, b"a"]:
            for call in (lambda: live.go(value), lambda: live.step(value, 1), lambda: live.step(value, [])):
                with self.assertRaises(UnknownThread) as caught:
                    call()
                self.assertIs(caught.exception.name, value)
        self.assertEqual(all_of(live), before)


class Steps(unittest.TestCase):
    def test_targets(self):
        live = Live(TOGETHER)
        live.come("a", Program.parse("read x -> 0 2 end\nread y\nwrite x -> 1"))
        for value in [*any_values(), 1, 3, "end", "0", (0,), [None], b"", 2.0, 0.0]:
            if value is not None and not (value == 0 and type(value) is int):
                self.assertRaises(BadTarget, live.step, "a", value)
        self.assertEqual(all_of(live)[2:], [((0,), (FREE,)), 0, {"a": 0}])
        self.assertEqual([live.step("a", 0), live.step("a", 0), live.step("a", 2), live.step("a", 1)], [1, 0, 0, 1])
        for value in (0, 2, 1, False):
            self.assertRaises(BadTarget, live.step, "a", value)
        self.assertEqual([live.step("a", None), live.state()], [0, ((None,), (((0,), True),))])
        for value in (None, 0, 1, 2, []):
            self.assertRaises(BadTarget, live.step, "a", value)
        self.assertEqual([type(live.step.__self__.moves()), live.moves(), live.by_thread()], [int, 2, {"a": 2}])

    def test_true_and_false_are_no_targets(self):
        live = Live(TOGETHER)
        live.come("a", Program.parse("read x -> 0 1\nwrite x"))
        self.assertRaises(BadTarget, live.step, "a", True)
        self.assertRaises(BadTarget, live.step, "a", False)
        self.assertEqual([live.step("a", 1), live.step("a", None)], [1, 1])

    def test_unknown_threads_come_ahead_of_bad_targets(self):
        live = Live(TOGETHER)
        live.come("a", WRITE_Y)
        self.assertRaises(UnknownThread, live.step, "b", 7)
        self.assertRaises(BadTarget, live.step, "a", 7)

    def test_long_runs(self):
        live = Live(TOGETHER)
        live.come("a", Program.parse("write x -> 0"))
        live.come("b", Program.parse("write y -> 0"))
        begin = time.process_time()
        for _ in range(2000):
            self.assertEqual([live.step("a", 0), live.step("b", 0)], [1, 1])
        self.assertLess(time.process_time() - begin, 5)
        self.assertEqual([live.moves(), live.by_thread(), live.left()], [4000, {"a": 2000, "b": 2000}, None])


class MovingCells(unittest.TestCase):
    def test_to_its_own_line_changes_nothing(self):
        live = with_three(XY)
        before = all_of(live)
        for cell, line in (("x", 0), ("y", 0), ("z", 1)):
            live.move_cell(cell, line)
            self.assertEqual(all_of(live), before)

    def test_both_lines_lose_their_holders_and_others_keep_theirs(self):
        live = with_three(OWN)
        x, y, z = ((0, 1, 2), False), ((1, 2), False), ((1,), True)
        self.assertEqual(held(live), (x, y, z))
        wide = Layout(OWN.cells(), 3, [["x"], ["y"], ["z"]])
        for cell, line, lines, behind in (
            ("x", 1, (("x", "y"), ("z",)), (FREE, z)),
            ("y", 0, (("x", "y"), ("z",)), (FREE, z)),
            ("x", 2, (("x", "z"), ("y",)), (FREE, y)),
            ("z", 0, (("x", "z"), ("y",)), (FREE, y)),
            ("z", 1, (("x",), ("y", "z")), (x, FREE)),
            # Each of these is alone in its line: that one is left out, and a new one comes.
            ("x", 3, (("x",), ("y",), ("z",)), (FREE, y, z)),
            ("y", 3, (("x",), ("y",), ("z",)), (x, FREE, z)),
            ("z", 3, (("x",), ("y",), ("z",)), (x, y, FREE)),
        ):
            with self.subTest(cell=cell, line=line):
                live = with_three(wide)
                live.move_cell(cell, line)
                self.assertEqual([live.layout().lines, live.layout().room], [lines, 3])
                self.assertEqual(live.state(), ((1, 0, 2), behind))
                self.assertEqual([live.moves(), live.by_thread()], [6, {"a": 1, "b": 3, "c": 2}])

    def test_to_a_new_line(self):
        live = with_three(XY)
        live.move_cell("x", 2)
        self.assertEqual([live.layout(), live.state()],
                         [Layout(XY.cells(), 2, [["x"], ["y"], ["z"]]), ((1, 0, 2), (FREE, FREE, ((1,), True)))])

    def test_lines_get_other_numbers(self):
        cells = {name: 1 for name in "uvwxyz"}
        live = Live(Layout(cells, 2, [["u"], ["v", "x"], ["w"], ["y", "z"]]))
        live.come("a", Program.parse("write u -> 1\nwrite v -> 2\nread w -> 3\nread y"))
        for target in (1, 2, 3, None):
            live.step("a", target)
        own, held_only = ((0,), True), ((0,), False)
        self.assertEqual(held(live), (own, own, held_only, held_only))
        live.move_cell("u", 2)
        self.assertEqual([live.layout().lines, held(live)],
                         [(("u", "w"), ("v", "x"), ("y", "z")), (FREE, own, held_only)])
        live.move_cell("v", 3)
        self.assertEqual([live.layout().lines, held(live)],
                         [(("u", "w"), ("v",), ("x",), ("y", "z")), (FREE, FREE, FREE, held_only)])
        live.move_cell("z", 4)
        self.assertEqual([live.layout().lines, held(live)],
                         [(("u", "w"), ("v",), ("x",), ("y",), ("z",)), (FREE, FREE, FREE, FREE, FREE)])

    def test_moved_cells_cost_again(self):
        live = Live(APART)
        live.come("a", Program.parse("write x -> 0"))
        self.assertEqual([live.step("a", 0), live.step("a", 0), live.left()], [1, 0, 0])
        live.move_cell("x", 2)
        self.assertEqual([live.layout(), live.left(), live.step("a", 0), live.moves()], [APART, 1, 1, 2])
        live.move_cell("x", 0)
        self.assertEqual([live.left(), live.step("a", 0)], [0, 0])

    def test_errors(self):
        live = with_three(XY)
        before = all_of(live)
        for value in any_values():
            for line in (0, None, 7):
                with self.assertRaises(UnknownCell) as caught:
                    live.move_cell(value, line)
                self.assertIs(caught.exception.cell, value)
            if value != 0 or type(value) is not int:
                self.assertRaises(BadLine, live.move_cell, "x", value)
        for cell, line in (("z", 0), ("x", 3), ("x", -1), ("z", True), ("x", False), ("z", "1")):
            self.assertRaises(BadLine, live.move_cell, cell, line)
        self.assertRaises(UnknownCell, live.move_cell, "q", 0)
        self.assertEqual(all_of(live), before)

    def test_the_layout_that_was_handed_in_stays(self):
        live = Live(XY)
        live.move_cell("y", 1)
        self.assertEqual(XY.lines, (("x", "y"), ("z",)))
        other = Live(XY)
        self.assertEqual([live.layout(), other.layout()], [YZ, XY])


class Marks(unittest.TestCase):
    def test_all_is_as_it_was(self):
        live = with_three(XY)
        before = all_of(live)
        self.assertEqual(live.mark(), 0)
        live.step("c", None)
        live.go("a")
        live.move_cell("z", 2)
        live.come("d", WRITE_Y)
        live.step("d", None)
        live.move_cell("x", 1)
        changed = all_of(live)
        self.assertEqual(live.mark(), 1)
        live.back(0)
        self.assertEqual(all_of(live), before)
        self.assertEqual([live.left(), live.least_left()], [None, 3])
        # The later mark has ended, and its number is given again.
        self.assertRaises(UnknownMark, live.back, 1)
        self.assertEqual(live.mark(), 1)
        live.back(1)
        self.assertEqual(all_of(live), before)
        self.assertNotEqual(changed, before)

    def test_a_mark_stays(self):
        live = with_three(XY)
        before = all_of(live)
        live.mark()
        for _ in range(3):
            live.step("c", None)
            live.go("b")
            live.back(0)
            self.assertEqual(all_of(live), before)
        self.assertEqual(live.mark(), 1)

    def test_marks_within_marks(self):
        live = Live(TOGETHER)
        live.come("a", Program.parse("write x -> 0"))
        live.come("b", Program.parse("write x -> 0"))
        for number in range(6):
            self.assertEqual([live.mark(), live.moves()], [number, number])
            live.step("ab"[number % 2], 0)
        live.back(4)
        self.assertEqual([live.moves(), live.by_thread()], [4, {"a": 2, "b": 2}])
        live.back(2)
        self.assertEqual([live.moves(), live.by_thread()], [2, {"a": 1, "b": 1}])
        for number in (3, 4, 5):
            self.assertRaises(UnknownMark, live.back, number)
        self.assertEqual(live.step("a", 0), 1)
        self.assertEqual(live.mark(), 3)
        live.back(2)
        live.back(0)
        self.assertEqual([live.moves(), live.state()], [0, ((0, 0), (FREE,))])
        self.assertRaises(UnknownMark, live.back, 1)
        self.assertEqual(live.mark(), 1)

    def test_marks_without_threads(self):
        live = Live(XY)
        self.assertEqual(live.mark(), 0)
        live.come("a", READER)
        live.back(0)
        self.assertEqual(all_of(live), [XY, [], ((), (FREE, FREE)), 0, {}])
        live.come("a", WRITER)

    def test_unknown_marks(self):
        live = with_three(XY)
        live.mark()
        live.step("c", None)
        live.mark()
        before = all_of(live)
        for value in [*any_values(), 2, 0.0, 1.0, "0", [0], (0,)]:
            if not (value == 0 and type(value) is int):
                with self.assertRaises(UnknownMark) as caught:
                    live.back(value)
                self.assertIs(caught.exception.number, value)
        self.assertEqual(all_of(live), before)
        self.assertEqual(live.mark(), 2)
        live.back(2)

    def test_two_live_runs_do_not_know_of_each_other(self):
        first, second = Live(XY), Live(XY)
        first.mark()
        first.come("a", READER)
        self.assertRaises(UnknownMark, second.back, 0)
        self.assertEqual([second.names(), first.names()], [[], ["a"]])
        second.come("a", WRITER)
        second.step("a", 1)
        self.assertEqual([first.moves(), second.moves()], [0, 1])


class Numbers(unittest.TestCase):
    def test_left_and_least_left_by_hand(self):
        live = Live(TOGETHER)
        live.come("a", WRITE_TWICE)
        self.assertEqual([live.left(), live.least_left()], [1, 1])
        live.come("b", WRITE_Y)
        self.assertEqual([live.left(), live.least_left()], [3, 2])
        live.step("a", 1)
        self.assertEqual([live.left(), live.least_left()], [2, 1])
        live.come("c", Program.parse("read x -> 0"))
        self.assertEqual([live.left(), live.least_left()], [5, None])
        live.go("b")
        self.assertEqual([live.left(), live.least_left()], [3, None])
        live.go("c")
        live.step("a", None)
        self.assertEqual([live.left(), live.least_left()], [0, 0])
        live.come("c", Program.parse("write x -> 0 end"))
        live.come("b", Program.parse("write x -> 0 end"))
        self.assertEqual([live.left(), live.least_left()], [None, 2])

    def test_states_that_can_be_reached_from_now(self):
        for layout, threads in THOUSAND:
            live = Live(layout)
            for number, program in enumerate(threads):
                live.come(str(number), program)
            steps = oracle.table(layout, threads)
            self.assertEqual([live.left(), live.least_left()],
                             [oracle.rests(steps)[live.state()], oracle.floors(steps)[live.state()]])
        for layout, threads in THOUSAND_AND_ONE + [(XY, MANY)]:
            live = Live(layout)
            for number, program in enumerate(threads):
                live.come(str(number), program)
            before = all_of(live)
            self.assertRaises(TooManyStates, live.left)
            self.assertRaises(TooManyStates, live.least_left)
            self.assertEqual(all_of(live), before)
            # Behind the first steps, fewer states can be reached; without one thread, too.
            live.mark()
            live.go("1")
            if threads is not MANY:
                live.left()
            live.back(0)
            self.assertRaises(TooManyStates, live.left)

    def test_just_the_states_behind_now_count(self):
        layout, threads = THOUSAND_AND_ONE[1]
        live = Live(layout)
        for number, program in enumerate(threads):
            live.come(str(number), program)
        for name, target in (("2", None), ("0", 3), ("0", 1)):
            self.assertRaises(TooManyStates, live.left)
            live.step(name, target)
            steps = oracle.table_from(layout, threads, live.state())
            if len(steps) <= 1000:
                self.assertEqual([live.left(), live.least_left()],
                                 [oracle.rests(steps)[live.state()], oracle.floors(steps)[live.state()]])
                return
        self.fail("all have too many")


class AtRandom(unittest.TestCase):
    def compare(self, live, model):
        self.assertEqual([live.layout().lines, live.layout().room, live.layout().cells()],
                         [model.told_lines(), model.room, model.sizes])
        self.assertEqual([live.names(), live.state(), live.moves(), live.by_thread()],
                         [model.names(), model.state(), model.moves, model.by_thread()])
        self.assertTrue(all(type(owned) is bool for _, owned in held(live)))

    def test_against_a_model(self):
        for seed, (layout, _, _) in enumerate(random_cases(71, 60)):
            source = random.Random(seed)
            live, model = Live(layout), Model(layout)
            for _ in range(60):
                before = all_of(live)
                if not self.change(source, live, model):
                    self.assertEqual(all_of(live), before)
                self.compare(live, model)
            numbers = model.numbers(live.layout())
            if numbers is not None:
                self.assertEqual([live.left(), live.least_left()], numbers)

    def change(self, source, live, model):
        """Does one thing at random in both, or one that is refused: then False."""
        action = source.choice(["come", "go", "step", "step", "step", "step", "move", "mark", "back"])
        name = source.choice("abcd")
        cells = sorted(model.sizes)
        there = [thread for thread in model.threads if thread.name == name]
        if action == "come":
            return self.come(source, live, model, name)
        if action in ("go", "step") and not there:
            self.assertRaises(UnknownThread, live.go if action == "go" else lambda one: live.step(one, None), name)
            return False
        if action == "go":
            live.go(name)
            model.go(name)
        elif action == "step":
            return self.step(source, live, model, there[0])
        elif action == "move":
            cell, line = source.choice(cells), source.randint(0, len(model.lines))
            if not model.has_room(cell, line):
                self.assertRaises(BadLine, live.move_cell, cell, line)
                return False
            live.move_cell(cell, line)
            model.move_cell(cell, line)
        elif action == "mark":
            self.assertEqual(live.mark(), model.mark())
        else:
            number = source.randint(0, 3)
            if number >= len(model.marks):
                self.assertRaises(UnknownMark, live.back, number)
                return False
            live.back(number)
            model.back(number)
        return True

    def come(self, source, live, model, name):
        program = random_program(source, sorted(model.sizes), 3)
        if name in model.names() or len(model.threads) == 3:
            self.assertRaises(NameTaken if name in model.names() else TooManyThreads, live.come, name, program)
            return False
        live.come(name, program)
        model.come(name, program)
        return True

    def step(self, source, live, model, thread):
        targets = () if thread.place is None else thread.program.nodes[thread.place][2]
        target = source.choice([None, 0, 1, 2])
        if target not in targets:
            self.assertRaises(BadTarget, live.step, thread.name, target)
            return False
        self.assertEqual(live.step(thread.name, target), model.step(thread.name, target))
        return True

    def test_a_live_run_without_changes_is_a_run(self):
        """What a live run counted and what can still come is as steps and rests tell."""
        for seed, (layout, _, threads) in enumerate(random_cases(72, 40)):
            steps = oracle.table(layout, threads)
            rests, floors = oracle.rests(steps), oracle.floors(steps)
            live = Live(layout)
            for number, program in enumerate(threads):
                live.come(str(number), program)
            source = random.Random(seed)
            moves = 0
            for _ in range(8):
                state = live.state()
                self.assertEqual([live.left(), live.least_left()], [rests[state], floors[state]])
                if not steps[state]:
                    break
                thread, target, moves_now, behind = source.choice(steps[state])
                self.assertEqual(live.step(str(thread), target), moves_now)
                moves += moves_now
                self.assertEqual([live.state(), live.moves()], [behind, moves])
                # Asking changes nothing, in whatever order.
                self.assertEqual([live.least_left(), live.left(), live.state()],
                                 [floors[behind], rests[behind], behind])

    def test_all_errors_are_line_errors(self):
        live = with_three(XY)
        for call in (lambda: live.come("a", READER), lambda: live.come("d", READER), lambda: live.go("d"),
                     lambda: live.step("a", 7), lambda: live.move_cell("z", 0), lambda: live.back(0)):
            self.assertRaises(LineError, call)


class Interface(unittest.TestCase):
    def test_methods_are_in_the_class_itself(self):
        for name in ("layout", "names", "state", "moves", "come", "go", "step", "move_cell", "left", "least_left",
                     "mark", "back", "by_thread"):
            self.assertIn(name, vars(Live))
        self.assertEqual(Live.__module__, "sharedlines.live")

    def test_a_program_list_that_is_changed_does_not_matter(self):
        programs = parsed("write x -> 0", "write y")
        live = Live(TOGETHER)
        live.come("a", programs[0])
        programs.clear()
        self.assertEqual(live.step("a", 0), 1)


if __name__ == "__main__":
    unittest.main()
