"""Programs: what threads read and write, and where they go next."""

from sharedlines.checks import is_name
from sharedlines.errors import InvalidText

MOST_NODES = 8
WORDS = ("read", "write")
ARROW = "->"
END = "end"


class Program:
    """A program. `nodes` is the tuple of its nodes (word, cell, targets)."""

    def __init__(self, text):
        self.nodes = _nodes_of(text)
        # The text is kept, since "read x" and "read x -> end" have the same
        # nodes but are different programs.
        self._text = text

    @staticmethod
    def parse(text):
        """The program with a text."""
        return Program(text)

    def __str__(self):
        return str(self._text)

    def __eq__(self, other):
        return isinstance(other, Program) and self._text == other._text


def _nodes_of(text):
    if not isinstance(text, str):
        raise InvalidText(0)
    rows = text.split("\n")
    # Numbers are looked up as words and never converted: that leaves out
    # leading zeros, other digits than 0 to 9, and numbers without a row.
    numbers = {str(number): number for number in range(len(rows))}
    nodes = []
    for index, row in enumerate(rows[:MOST_NODES]):
        node = _node_of(row, numbers)
        if node is None:
            raise InvalidText(index)
        nodes.append(node)
    if len(rows) > MOST_NODES:
        raise InvalidText(MOST_NODES)
    return tuple(nodes)


def _node_of(row, numbers):
    """The node of a row, or None if the row is not right."""
    words = row.split(" ")
    if len(words) < 2 or words[0] not in WORDS or not is_name(words[1]):
        return None
    targets = _targets_of(words[2:], numbers)
    if targets is None:
        return None
    return (words[0], words[1], targets)


def _targets_of(words, numbers):
    """The targets that stand behind the cell, or None if they are not right."""
    if len(words) == 0:
        return (None,)
    if words[0] != ARROW or len(words) == 1:
        return None
    may_end = words[-1] == END
    named = words[1:-1] if may_end else words[1:]
    if not all([word in numbers for word in named]):
        return None
    targets = [numbers[word] for word in named]
    if targets != sorted(set(targets)):
        return None
    return (*targets, None) if may_end else tuple(targets)
