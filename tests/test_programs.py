"""Programs: points 3 and 5, and the interface of sharedlines/programs.py."""

import inspect
import re
import unittest

from sharedlines.errors import InvalidText
from sharedlines.programs import Program
from tests.values import any_values, nested

ROW = re.compile(r"(?:read|write) [a-z]{1,8}(?P<rest>(?: ->(?: (?:0|[1-9][0-9]*))*(?: end)?)?)", re.ASCII)


def first_wrong_row(text):
    """The index of the first row that is not right, or None."""
    rows = text.split("\n")
    for index, row in enumerate(rows):
        if index == 8:
            return 8
        match = ROW.fullmatch(row)
        if match is None or match["rest"] == " ->":
            return index
        targets = [int(word) for word in match["rest"].split(" ") if word.isdigit()]
        if any(low >= high for low, high in zip(targets, targets[1:])):
            return index
        if targets and targets[-1] >= len(rows):
            return index
    return None


class Case(unittest.TestCase):
    def refused(self, text, row):
        with self.assertRaises(InvalidText) as caught:
            Program.parse(text)
        self.assertEqual(caught.exception.row, row)
        self.assertIs(type(caught.exception.row), int)


class Interface(Case):
    def test_parameters_and_places(self):
        self.assertEqual(list(inspect.signature(Program.parse).parameters), ["text"])
        self.assertIsInstance(vars(Program)["parse"], staticmethod)
        self.assertEqual(Program.__module__, "sharedlines.programs")
        for name in ("parse", "__str__", "__eq__"):
            self.assertIn(name, vars(Program))

    def test_argument_by_name(self):
        self.assertEqual(str(Program.parse(text="read x")), "read x")

    def test_example(self):
        self.assertEqual(Program.parse("read x -> 0 1 end\nwrite y").nodes,
                         (("read", "x", (0, 1, None)), ("write", "y", (None,))))


class Right(Case):
    def test_rows_and_their_nodes(self):
        for text, nodes in (
            ("read x", (("read", "x", (None,)),)),
            ("write x", (("write", "x", (None,)),)),
            ("read x -> end", (("read", "x", (None,)),)),
            ("read x -> 0", (("read", "x", (0,)),)),
            ("write abcdefgh -> 0 end", (("write", "abcdefgh", (0, None)),)),
            ("read a -> 1\nwrite z -> 0", (("read", "a", (1,)), ("write", "z", (0,)))),
            ("read a -> 0 1 2 end\nread b\nread c -> 0 2",
             (("read", "a", (0, 1, 2, None)), ("read", "b", (None,)), ("read", "c", (0, 2)))),
        ):
            with self.subTest(text):
                program = Program.parse(text)
                self.assertIsInstance(program, Program)
                self.assertEqual(program.nodes, nodes)
                self.assertEqual(str(program), text)

    def test_kinds_of_what_is_told(self):
        nodes = Program.parse("read x -> 0 1 end\nwrite y -> 1").nodes
        self.assertIs(type(nodes), tuple)
        for node in nodes:
            self.assertIs(type(node), tuple)
            self.assertEqual([type(part) for part in node], [str, str, tuple])
            self.assertTrue(all(target is None or type(target) is int for target in node[2]))

    def test_eight_rows(self):
        text = "\n".join([f"read {name} -> 0 1 2 3 4 5 6 7 end" for name in "abcdefgh"])
        program = Program.parse(text)
        self.assertEqual(program.nodes, tuple(("read", name, (0, 1, 2, 3, 4, 5, 6, 7, None)) for name in "abcdefgh"))
        self.assertEqual(str(program), text)

    def test_no_name_is_barred(self):
        for name in ("read", "write", "end", "a", "z"):
            for row, targets in ((f"read {name}", (None,)), (f"read {name} -> end", (None,)),
                                 (f"read {name} -> 0 end", (0, None))):
                self.assertEqual(Program.parse(row).nodes, (("read", name, targets),))
                self.assertEqual(Program.parse("write" + row[4:]).nodes, (("write", name, targets),))


class Wrong(Case):
    def test_values_of_other_kinds(self):
        for value in any_values():
            self.refused(value, 0)
        for value in (["read x"], ("read x",), {"read x": 0}, nested(50), 0, True, None):
            self.refused(value, 0)

    def test_rows(self):
        for row in (
            "", " ", "read", "write", "read ", "x", "end", "-> end", "read -> end", "read -> 0",
            " read x", "read x ", "read  x", "read x  -> 0", "read x ->  0", "read x -> 0 ", "read x -> 0  end",
            "read x ->", "read x -> ", "read x->0", "read x ->0", "read x 0", "read x end", "read x - > 0",
            "read x -> -> 0", "read x => 0", "read x -> 00", "read x -> 01", "read x -> -0", "read x -> +0",
            "read x -> 0 0", "read x -> 1 0", "read x -> 0 2 1", "read x -> end 0", "read x -> 0 end 1",
            "read x -> end end", "read x -> 0 end end", "read x -> 3", "read x -> 0 3", "read x -> 10",
            "read x -> -1", "read x -> 0,1", "read x -> None", "read x -> END", "read x -> ends", "read x -> a",
            "read x -> 0x0", "read x -> 0.0", "read x -> 1_0", "read x -> " + "9" * 5000, "read x -> 0 " + "1" * 5000,
            "Read x", "READ x", "reads x", "rea x", "writ x", "move x", "readx", "read,x", "read\tx",
            "read X", "read x1", "read 1", "read x_", "read x.", "read abcdefghi", "read x y", "read x y -> 0",
            "read \u00e9", "read \u00df", "read \u0430", "read\u00a0x", "read x\u2028", "read x -> \u0660",
            "read x -> \u00b2", "read x -> \uff10", "read x \u2192 0", "read x\r", "read x -> 0\r", "read x\x0b",
            "read x\x00", "read x\ud800", "\ufeffread x", "read x\t", "\tread x", "read x -> 0\tend",
        ):
            with self.subTest(row):
                self.refused("\n".join([row, "read y", "read z"]), 0)
                self.refused("\n".join(["read y", row, "read z"]), 1)
                self.refused("\n".join(["read y", "read z", row]), 2)
                self.refused("\n".join(["read y", row, row]), 1)
                self.refused("\n".join(["read y"] * 7 + [row + " -> 9"]), 7)

    def test_empty_texts_and_newlines(self):
        self.refused("", 0)
        self.refused("\n", 0)
        self.refused("\nread x", 0)
        self.refused("read x\n", 1)
        self.refused("read x\n\nread x", 1)
        self.refused("read x\n\n", 1)
        self.refused("read x\r\nread y", 0)
        self.refused("\n".join(["read x"] * 7) + "\n", 7)
        self.refused("\n".join(["read x"] * 8) + "\n", 8)

    def test_more_than_eight_rows(self):
        self.refused("\n".join(["read x"] * 9), 8)
        self.refused("\n".join(["read x"] * 100), 8)
        self.refused("\n".join(["read x"] * 8 + ["wrong"]), 8)
        self.refused("\n".join(["read x"] * 8 + [""]), 8)
        self.refused("\n".join(["read x"] * 7 + ["wrong", "read x"]), 7)
        self.refused("\n".join(["wrong"] + ["read x"] * 9), 0)

    def test_targets_beyond_eight_rows_are_right_where_such_a_row_is(self):
        self.refused("\n".join(["read x -> 8"] * 9), 8)
        self.refused("\n".join(["read x -> 9"] * 9), 0)
        self.refused("\n".join(["read x"] * 3 + ["read x -> 9"] + ["read x"] * 5), 3)
        self.refused("\n".join(["read x -> 9 10 11"] * 12), 8)
        self.refused("\n".join(["read x -> 10 9"] * 12), 0)

    def test_targets_without_a_row(self):
        for many in range(1, 9):
            rows = ["read x"] * many
            for index in range(many):
                right = rows[:index] + [f"read x -> {many - 1}"] + rows[index + 1:]
                wrong = rows[:index] + [f"read x -> {many}"] + rows[index + 1:]
                self.assertEqual(Program.parse("\n".join(right)).nodes[index], ("read", "x", (many - 1,)))
                self.refused("\n".join(wrong), index)

    def test_each_sign_left_out_put_in_or_changed(self):
        texts = ["read x -> 0 1 end\nwrite y", "write end -> end\nread read -> 0\nread z -> 1 2",
                 "\n".join(["read ab -> 0 7"] * 8)]
        signs = " \n0123789adenrz->AZ\t\u0660\u00e9"
        for text in texts:
            changed = [text]
            for at in range(len(text) + 1):
                changed.append(text[:at] + text[at + 1:])
                changed.extend([text[:at] + sign + text[at:] for sign in signs])
                changed.extend([text[:at] + sign + text[at + 1:] for sign in signs])
            for other in changed:
                wrong = first_wrong_row(other)
                if wrong is None:
                    self.assertEqual(str(Program.parse(other)), other)
                else:
                    self.refused(other, wrong)


class Equal(Case):
    def test_equal_exactly_if_the_texts_are(self):
        texts = ["read x", "read x -> end", "write x", "read y", "read x -> 0", "read x -> 0 end",
                 "read x\nread x", "read x -> 1\nread x", "read x\nread x -> end"]
        for text in texts:
            for other in texts:
                self.assertIs(Program.parse(text) == Program.parse(other), text == other)
                self.assertIs(Program.parse(text) != Program.parse(other), text != other)

    def test_texts_differ_where_the_nodes_are_the_same(self):
        short, long = Program.parse("read x"), Program.parse("read x -> end")
        self.assertEqual(short.nodes, long.nodes)
        self.assertEqual([str(short), str(long)], ["read x", "read x -> end"])
        self.assertFalse(short == long)

    def test_no_other_value_is_equal(self):
        program = Program.parse("read x")
        for other in any_values() + ["read x", program.nodes, object(), Program]:
            self.assertIs(program == other, False)
            self.assertIs(other == program, False)
            self.assertIs(program != other, True)
            self.assertIs(other != program, True)


if __name__ == "__main__":
    unittest.main()
