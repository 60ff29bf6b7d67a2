"""Layouts: points 3 and 4, and the interface of sharedlines/layouts.py."""

import copy
import inspect
import itertools
import unittest

from sharedlines import layouts
from sharedlines.errors import BadCells, BadLine, BadLines, BadRoom, UnknownCell
from sharedlines.layouts import Layout, all_layouts, own
from tests.values import any_values, nested, nested_dict

SIX = {"f": 1, "e": 2, "d": 3, "c": 4, "b": 5, "a": 6}

BAD_CELLS = [
    {}, {name: 1 for name in "abcdefg"},
    {"": 1}, {"abcdefghi": 1}, {"X": 1}, {"aB": 1}, {"x1": 1}, {"1": 1}, {"x y": 1},
    {" x": 1}, {"x\n": 1}, {"_": 1}, {"`": 1}, {"{": 1}, {"\u00e9": 1}, {"\u00df": 1},
    {"\u0131": 1}, {"x\u0301": 1}, {"\ud800": 1},
    {"x": 0}, {"x": 9}, {"x": -1}, {"x": 10 ** 5000}, {"x": True}, {"x": False},
    {"x": None}, {"x": "1"}, {"x": [1]}, {"x": (1,)}, {"x": {}}, {"x": nested(49)},
    {None: 1}, {1: 1}, {True: 1}, {("x",): 1}, {(): 1},
    {"x": 1, "y": 0}, {"x": 1, "Y": 1}, {"x": 1, 1: 1}, {"x": 1, None: None},
    [], ["x"], [("x", 1)], (), (("x", 1),), "x", "", 1, None, True, False, nested(50), nested_dict(50),
]
BAD_ROOMS = [0, 33, -1, 10 ** 5000, -(10 ** 5000), True, False, None, "4", "", [4], (4,), {4: 4}, nested(50)]
# For the cells {"x": 1, "y": 2, "z": 3} and the room 3.
BAD_LINES = [
    [], [[]], [["x"]], [["x", "y"]], [["x"], ["y"]], [["z"]],
    [["x", "y"], ["z"], []], [[], ["x", "y"], ["z"]],
    [["x", "y"], ["z"], ["x"]], [["x", "x"], ["y"], ["z"]], [["x"], ["y"], ["z"], ["z"]],
    [["x"], ["y"], ["z"], ["w"]], [["w", "x"], ["y"], ["z"]], [["x"], ["y"], ["w"]],
    [["x", "z"], ["y"]], [["x"], ["y", "z"]], [["x", "y", "z"]],
    [["x", "y"], ["z", ""]], [["x", "y"], ["z"], ["X"]], [["x", "y"], ["z"], ["abcdefghi"]],
    (["x", "y"], ["z"]), [("x", "y"), ["z"]], [["x", "y"], ("z",)], [["x", "y"], "z"],
    ["x", "y", "z"], "xyz", ["xy", "z"], "", [["x", "y"], {"z": 3}], {"x": 0, "y": 0, "z": 1},
    [["x", "y"], ["z"], None], [["x", "y"], ["z"], 1], [["x", "y"], ["z"], True],
    [["x", "y"], ["z", None]], [["x", "y"], ["z", 1]], [["x", "y"], ["z", True]], [["x", "y"], ["z", False]],
    [["x", "y"], [["z"]]], [["x", "y"], [("z",)]], [["x", "y"], [{}]], [["x", "y"], ["z", []]],
    [[["x", "y"], ["z"]]], None, 1, 0, True, False, (), {}, nested(50), nested_dict(50), [nested(49)],
    [["x", "y"], ["z"], nested(48)], [["x", "y"], ["z", nested(48)]],
]


def brute_force(cells, room):
    """The lines of all layouts, from all ways to give each cell a number."""
    found = set()
    for numbers in itertools.product(range(len(cells)), repeat=len(cells)):
        lines = {}
        for name, number in zip(sorted(cells), numbers):
            lines.setdefault(number, []).append(name)
        if all(sum(cells[name] for name in line) <= room for line in lines.values()):
            found.add(tuple(sorted(tuple(line) for line in lines.values())))
    return sorted(found, key=lambda lines: (len(lines), lines))


class Interface(unittest.TestCase):
    def test_parameters_and_places(self):
        expected = {
            Layout: ["cells", "room", "lines"], Layout.cells: ["self"], Layout.line_of: ["self", "cell"],
            Layout.moved: ["self", "cell", "line"], own: ["cells"], all_layouts: ["cells", "room"],
        }
        for thing, parameters in expected.items():
            self.assertEqual(list(inspect.signature(thing).parameters), parameters)
            self.assertEqual(thing.__module__, layouts.__name__)
        for name in ("cells", "line_of", "moved", "__init__", "__eq__"):
            self.assertIn(name, vars(Layout))

    def test_arguments_by_name(self):
        layout = Layout(lines=[["x"], ["y"]], cells={"x": 1, "y": 1}, room=2)
        self.assertEqual(layout.line_of(cell="y"), 1)
        self.assertEqual(layout.moved(line=0, cell="y").lines, (("x", "y"),))
        self.assertEqual(own(cells={"x": 3}).room, 3)
        self.assertEqual(len(all_layouts(room=2, cells={"x": 1, "y": 1})), 2)

    def test_example(self):
        layout = Layout({"y": 2, "x": 1, "z": 4}, 4, [["z"], ["y", "x"]])
        self.assertEqual([layout.lines, layout.line_of("z")], [(("x", "y"), ("z",)), 1])


class Made(unittest.TestCase):
    def test_order_of_what_is_handed_in_means_nothing(self):
        names = ["a", "b", "c", "d"]
        for order in itertools.permutations(names):
            cells = {name: names.index(name) + 1 for name in order}
            lines = [["d", "a"], ["c"], ["b"]]
            for some in itertools.permutations(lines):
                layout = Layout(cells, 5, [line[::-1] for line in some])
                self.assertEqual(layout.lines, (("a", "d"), ("b",), ("c",)))
                self.assertEqual(layout.cells(), {"a": 1, "b": 2, "c": 3, "d": 4})
                self.assertEqual([layout.line_of(name) for name in names], [0, 1, 2, 0])

    def test_names_are_ordered_as_strings(self):
        layout = Layout({"b": 1, "ab": 1, "abcdefgh": 1, "a": 1}, 2, [["b", "abcdefgh"], ["ab"], ["a"]])
        self.assertEqual(layout.lines, (("a",), ("ab",), ("abcdefgh", "b")))

    def test_kinds_of_what_is_told(self):
        layout = Layout({"x": 1, "y": 8}, 9, [["y", "x"]])
        self.assertIs(type(layout.lines), tuple)
        self.assertIs(type(layout.lines[0]), tuple)
        self.assertIs(type(layout.room), int)
        self.assertIs(type(layout.cells()), dict)
        self.assertIs(type(layout.line_of("x")), int)

    def test_one_cell_and_six_cells(self):
        self.assertEqual(Layout({"x": 1}, 1, [["x"]]).lines, (("x",),))
        six = Layout(SIX, 21, [["c", "b", "a", "f", "e", "d"]])
        self.assertEqual(six.lines, (("a", "b", "c", "d", "e", "f"),))
        self.assertEqual(six.cells(), SIX)
        six = Layout(SIX, 6, [[name] for name in SIX])
        self.assertEqual(six.lines, (("a",), ("b",), ("c",), ("d",), ("e",), ("f",)))

    def test_sizes_and_rooms_at_the_edges(self):
        for size, room in ((1, 1), (1, 32), (8, 8), (8, 32)):
            layout = Layout({"x": size}, room, [["x"]])
            self.assertEqual([layout.room, layout.cells()], [room, {"x": size}])
        full = {"a": 8, "b": 8, "c": 8, "d": 8}
        self.assertEqual(Layout(full, 32, [list(full)]).lines, (("a", "b", "c", "d"),))
        self.assertRaises(BadLines, Layout, full, 31, [list(full)])

    def test_names_at_the_edges(self):
        for name in ("a", "z", "az", "abcdefgh", "zzzzzzzz", "read", "write", "end"):
            self.assertEqual(Layout({name: 1}, 1, [[name]]).lines, ((name,),))

    def test_what_was_handed_in_can_be_changed_afterwards(self):
        cells, lines = {"x": 1, "y": 2}, [["x"], ["y"]]
        layout = Layout(cells, 4, lines)
        cells["x"] = 3
        del cells["y"]
        lines[0].append("y")
        lines.pop()
        self.assertEqual(layout.cells(), {"x": 1, "y": 2})
        self.assertEqual(layout.lines, (("x",), ("y",)))
        self.assertEqual(layout.line_of("y"), 1)
        self.assertEqual(layout, Layout({"x": 1, "y": 2}, 4, [["x"], ["y"]]))
        self.assertEqual(layout.moved("x", 1).cells(), {"x": 1, "y": 2})

    def test_what_was_told_can_be_changed_afterwards(self):
        layout = Layout({"x": 1, "y": 2}, 4, [["x"], ["y"]])
        told = layout.cells()
        self.assertIsNot(told, layout.cells())
        told["x"] = 8
        told["z"] = 1
        self.assertEqual(layout.cells(), {"x": 1, "y": 2})
        self.assertEqual(layout, Layout({"x": 1, "y": 2}, 4, [["x"], ["y"]]))
        self.assertRaises(UnknownCell, layout.line_of, "z")

    def test_calls_change_nothing_of_what_they_are_passed(self):
        for cells, lines in ((SIX, [["f", "e"], ["d"], ["c"], ["b"], ["a"]]), (SIX, [["f", "a"]]), (SIX, [[]])):
            cells = dict(cells)
            passed = copy.deepcopy((cells, lines))
            try:
                Layout(cells, 6, lines)
            except BadLines:
                pass
            own(cells)
            all_layouts(cells, 9)
            self.assertEqual((cells, lines), passed)
            self.assertEqual(list(cells), list(passed[0]))


class Refused(unittest.TestCase):
    cells = {"x": 1, "y": 2, "z": 3}
    lines = [["x", "y"], ["z"]]

    def test_the_right_ones_are_right(self):
        self.assertEqual(Layout(self.cells, 3, self.lines).lines, (("x", "y"), ("z",)))

    def test_one_wrong_thing(self):
        for cells in BAD_CELLS:
            self.assertRaises(BadCells, Layout, cells, 3, self.lines)
        for room in BAD_ROOMS:
            self.assertRaises(BadRoom, Layout, self.cells, room, self.lines)
        for lines in BAD_LINES:
            with self.subTest(lines=repr(lines)):
                self.assertRaises(BadLines, Layout, self.cells, 3, lines)

    def test_several_wrong_things(self):
        for cells in BAD_CELLS:
            for room in [3] + BAD_ROOMS:
                for lines in ([["x"]], [], None, nested(50)):
                    self.assertRaises(BadCells, Layout, cells, room, lines)
        for room in BAD_ROOMS:
            for lines in BAD_LINES:
                self.assertRaises(BadRoom, Layout, self.cells, room, lines)

    def test_any_values(self):
        for value in any_values():
            self.assertRaises(BadCells, Layout, value, 3, self.lines)
            self.assertRaises(BadRoom, Layout, self.cells, value, self.lines)
            self.assertRaises(BadLines, Layout, self.cells, 3, value)
            self.assertRaises(BadLines, Layout, self.cells, 3, [["x", "y"], ["z"], value])
            self.assertRaises(BadLines, Layout, self.cells, 3, [["x", "y"], ["z", value]])
            self.assertRaises(BadCells, Layout, {**self.cells, "w": value}, 3, self.lines)

    def test_room_smaller_than_a_cell(self):
        self.assertRaises(BadLines, Layout, {"x": 8}, 7, [["x"]])
        self.assertRaises(BadLines, Layout, {"x": 2}, 1, [["x"]])

    def test_own_and_all_layouts(self):
        for cells in BAD_CELLS + any_values():
            self.assertRaises(BadCells, own, cells)
            self.assertRaises(BadCells, all_layouts, cells, 3)
            for room in BAD_ROOMS:
                self.assertRaises(BadCells, all_layouts, cells, room)
        for room in BAD_ROOMS + any_values():
            self.assertRaises(BadRoom, all_layouts, self.cells, room)


class Moved(unittest.TestCase):
    def setUp(self):
        self.layout = Layout({"a": 1, "b": 2, "c": 3, "d": 1}, 4, [["a", "b"], ["c"], ["d"]])

    def test_each_line_with_room_and_a_new_one(self):
        for cell, line, expected in (
            ("d", 0, (("a", "b", "d"), ("c",))),
            ("d", 1, (("a", "b"), ("c", "d"))),
            ("a", 1, (("a", "c"), ("b",), ("d",))),
            ("a", 2, (("a", "d"), ("b",), ("c",))),
            ("a", 3, (("a",), ("b",), ("c",), ("d",))),
            ("b", 2, (("a",), ("b", "d"), ("c",))),
            ("b", 3, (("a",), ("b",), ("c",), ("d",))),
            ("c", 2, (("a", "b"), ("c", "d"))),
        ):
            with self.subTest(cell=cell, line=line):
                moved = self.layout.moved(cell, line)
                self.assertIsInstance(moved, Layout)
                self.assertEqual([moved.lines, moved.room], [expected, 4])
                self.assertEqual(moved.cells(), self.layout.cells())
                self.assertEqual(moved, Layout(self.layout.cells(), 4, [list(names) for names in expected]))
                self.assertEqual([names for names in moved.lines if cell in names],
                                 [moved.lines[moved.line_of(cell)]])

    def test_the_own_line(self):
        for cell in "abcd":
            self.assertEqual(self.layout.moved(cell, self.layout.line_of(cell)), self.layout)
        full = Layout({"x": 8, "y": 8}, 16, [["x", "y"]])
        self.assertEqual(full.moved("x", 0), full)

    def test_a_line_of_its_own_into_a_new_one(self):
        self.assertEqual(self.layout.moved("c", 3), self.layout)
        self.assertEqual(self.layout.moved("d", 3), self.layout)
        one = Layout({"x": 1}, 1, [["x"]])
        self.assertEqual([one.moved("x", 0), one.moved("x", 1)], [one, one])

    def test_the_layout_itself_stays(self):
        self.layout.moved("d", 0)
        self.layout.moved("a", 3)
        self.assertEqual(self.layout.lines, (("a", "b"), ("c",), ("d",)))
        self.assertEqual([self.layout.line_of(cell) for cell in "abcd"], [0, 0, 1, 2])

    def test_against_all_layouts(self):
        cells, room = {"a": 1, "b": 2, "c": 3, "d": 4}, 6
        known = [layout.lines for layout in all_layouts(cells, room)]
        for layout in all_layouts(cells, room):
            for cell in cells:
                for line in range(-1, len(layout.lines) + 2):
                    lines = [[name for name in names if name != cell] for names in layout.lines] + [[]]
                    lines = lines + [None] if line < len(lines) else lines
                    fits = 0 <= line <= len(layout.lines)
                    if fits:
                        lines[line].append(cell)
                        expected = tuple(sorted(tuple(sorted(names)) for names in lines if names))
                        fits = expected in known
                    if fits:
                        self.assertEqual(layout.moved(cell, line).lines, expected)
                    else:
                        self.assertRaises(BadLine, layout.moved, cell, line)

    def test_bad_lines(self):
        for line in any_values() + [4, 5, "0", [0], (0,), nested(50)]:
            if line != 0 or line is False:
                for cell in "abcd":
                    self.assertRaises(BadLine, self.layout.moved, cell, line)
        for cell, line in (("c", 0), ("a", 4), ("a", -1), ("b", 1), ("a", True), ("a", False), ("d", True)):
            self.assertRaises(BadLine, self.layout.moved, cell, line)

    def test_unknown_cells(self):
        for cell in any_values() + ["e", "x", "ab", "A", {"a": 1}, ["a"], ("a",)]:
            calls = [(self.layout.line_of, [cell])]
            calls += [(self.layout.moved, [cell, line]) for line in (0, 3, 4, -1, True, None, [], nested(50))]
            for call, arguments in calls:
                with self.assertRaises(UnknownCell) as caught:
                    call(*arguments)
                self.assertIs(caught.exception.cell, cell)


class Equal(unittest.TestCase):
    def test_equal_exactly_if_cells_rooms_and_lines_are(self):
        def made():
            return [
                Layout({"x": 1, "y": 1}, 2, [["x", "y"]]),
                Layout({"x": 1, "y": 1}, 2, [["x"], ["y"]]),
                Layout({"x": 1, "y": 1}, 3, [["x", "y"]]),
                Layout({"x": 2, "y": 1}, 3, [["x", "y"]]),
                Layout({"x": 1, "y": 2}, 3, [["x", "y"]]),
                Layout({"x": 1, "z": 1}, 2, [["x", "z"]]),
                Layout({"x": 1}, 2, [["x"]]),
            ]
        for index, layout in enumerate(made()):
            for place, other in enumerate(made()):
                self.assertIs(layout == other, index == place)
                self.assertIs(layout != other, index != place)

    def test_order_of_what_was_handed_in_means_nothing(self):
        first = Layout({"x": 1, "y": 2, "z": 1}, 3, [["x", "y"], ["z"]])
        second = Layout({"z": 1, "y": 2, "x": 1}, 3, [["z"], ["y", "x"]])
        self.assertTrue(first == second)
        self.assertFalse(first != second)

    def test_no_other_value_is_equal(self):
        layout = Layout({"x": 1}, 1, [["x"]])
        for other in any_values() + [layout.lines, layout.cells(), layout.room, str(layout), object(), Layout]:
            self.assertIs(layout == other, False)
            self.assertIs(other == layout, False)
            self.assertIs(layout != other, True)
            self.assertIs(other != layout, True)


class Own(unittest.TestCase):
    def test_a_line_for_each_cell_and_the_least_room(self):
        for cells, room in (({"x": 1}, 1), ({"x": 8}, 8), ({"y": 2, "x": 5}, 5), (SIX, 6), ({"b": 1, "a": 1}, 1)):
            layout = own(cells)
            self.assertIsInstance(layout, Layout)
            self.assertEqual(layout.lines, tuple((name,) for name in sorted(cells)))
            self.assertEqual([layout.room, layout.cells()], [room, cells])
            if room > 1:
                self.assertRaises(BadLines, Layout, cells, room - 1, [[name] for name in cells])

    def test_cells_can_be_changed_afterwards(self):
        cells = {"x": 1}
        layout = own(cells)
        cells["x"] = 2
        self.assertEqual(layout.cells(), {"x": 1})


class AllLayouts(unittest.TestCase):
    def test_told_in_order(self):
        found = all_layouts({"c": 1, "b": 1, "a": 1}, 3)
        self.assertIs(type(found), list)
        self.assertEqual([layout.lines for layout in found], [
            (("a", "b", "c"),),
            (("a",), ("b", "c")), (("a", "b"), ("c",)), (("a", "c"), ("b",)),
            (("a",), ("b",), ("c",)),
        ])

    def test_against_all_ways(self):
        for cells in ({"x": 1}, {"x": 8}, {"b": 2, "a": 1}, {"a": 8, "b": 1, "c": 4},
                      {"a": 1, "ab": 2, "b": 3, "abc": 1}, {"e": 1, "d": 2, "c": 3, "b": 4, "a": 5}, SIX):
            for room in (1, 2, 3, 4, 5, 6, 7, 8, 9, 11, 12, 16, 21, 32):
                found = all_layouts(cells, room)
                self.assertEqual([layout.lines for layout in found], brute_force(cells, room))
                for layout in found:
                    self.assertIsInstance(layout, Layout)
                    self.assertEqual([layout.cells(), layout.room], [cells, room])

    def test_how_many(self):
        for many, expected in ((1, 1), (2, 2), (3, 5), (4, 15), (5, 52), (6, 203)):
            cells = {name: 1 for name in "abcdef"[:many]}
            self.assertEqual(len(all_layouts(cells, 32)), expected)
            self.assertEqual(len(all_layouts(cells, 1)), 1)

    def test_none_where_a_cell_has_no_room(self):
        self.assertEqual(all_layouts({"x": 8}, 7), [])
        self.assertEqual(all_layouts({"a": 1, "b": 2, "c": 1}, 1), [])
        self.assertEqual(all_layouts(SIX, 5), [])

    def test_results_are_new_and_stay_apart_from_the_cells(self):
        cells = {"x": 1, "y": 1}
        first = all_layouts(cells, 2)
        first.pop()
        self.assertEqual(len(all_layouts(cells, 2)), 2)
        cells["x"] = 2
        self.assertEqual(first[0].cells(), {"x": 1, "y": 1})


if __name__ == "__main__":
    unittest.main()
