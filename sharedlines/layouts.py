"""Layouts: which cells lie together in a line."""

from sharedlines.checks import is_integer_within, is_name
from sharedlines.errors import BadCells, BadLine, BadLines, BadRoom, UnknownCell

MOST_CELLS = 6
LARGEST_SIZE = 8
LARGEST_ROOM = 32


class Layout:
    """Cells with sizes, a room, and lines that hold each cell once.

    `room` is the room, `lines` the tuple of tuples of names, in order.
    """

    def __init__(self, cells, room, lines):
        _check_cells(cells)
        _check_room(room)
        if not _are_lines(cells, room, lines):
            raise BadLines()
        self._sizes = {name: cells[name] for name in sorted(cells)}
        self.room = room
        self.lines = tuple(sorted([tuple(sorted(line)) for line in lines]))
        self._numbers = {name: number for number, line in enumerate(self.lines) for name in line}

    def __eq__(self, other):
        return (isinstance(other, Layout) and self._sizes == other._sizes
                and self.room == other.room and self.lines == other.lines)

    def cells(self):
        """A dict from the names of the cells to their sizes."""
        return dict(self._sizes)

    def line_of(self, cell):
        """The number of the line in which a cell lies."""
        # Only strings are looked up, since not every value can be a key.
        if not isinstance(cell, str) or cell not in self._numbers:
            raise UnknownCell(cell)
        return self._numbers[cell]

    def moved(self, cell, line):
        """The layout in which a cell lies in another line, or in a new one."""
        old = self.line_of(cell)
        if not is_integer_within(line, 0, len(self.lines)):
            raise BadLine()
        lines = [list(names) for names in self.lines]
        lines.append([])
        lines[old].remove(cell)
        lines[line].append(cell)
        if _filled(self._sizes, lines[line]) > self.room:
            raise BadLine()
        return Layout(self._sizes, self.room, [names for names in lines if len(names) > 0])


def own(cells):
    """The layout in which each cell has a line of its own, with the least room."""
    _check_cells(cells)
    room = max([cells[name] for name in cells])
    return Layout(cells, room, [[name] for name in cells])


def all_layouts(cells, room):
    """All layouts, by their numbers of lines, then by their lines."""
    _check_cells(cells)
    _check_room(room)
    ways = [()]
    for name in sorted(cells):
        longer = []
        for lines in ways:
            longer.extend(_with_cell(cells, room, lines, name))
        ways = longer
    ways = sorted(ways, key=lambda way: (len(way), way))
    return [Layout(cells, room, [list(line) for line in lines]) for lines in ways]


def _check_cells(cells):
    if not isinstance(cells, dict) or not 1 <= len(cells) <= MOST_CELLS:
        raise BadCells()
    for name, size in cells.items():
        if not is_name(name) or not is_integer_within(size, 1, LARGEST_SIZE):
            raise BadCells()


def _check_room(room):
    if not is_integer_within(room, 1, LARGEST_ROOM):
        raise BadRoom()


def _are_lines(sizes, room, lines):
    if not isinstance(lines, list) or not all([_is_line(sizes, room, line) for line in lines]):
        return False
    return sorted([name for line in lines for name in line]) == sorted(sizes)


def _is_line(sizes, room, line):
    if not isinstance(line, list) or len(line) == 0:
        return False
    # Strings first, since not every value can be looked up in a dict.
    if not all([isinstance(name, str) and name in sizes for name in line]):
        return False
    return _filled(sizes, line) <= room


def _filled(sizes, line):
    return sum([sizes[name] for name in line])


def _with_cell(sizes, room, lines, name):
    """All ways to put one more cell into lines, or into a new line behind them."""
    # The cells come in ascending order, so cells and lines stay in order.
    ways = []
    for number, line in enumerate(lines):
        longer = line + (name,)
        if _filled(sizes, longer) <= room:
            ways.append(lines[:number] + (longer,) + lines[number + 1:])
    if sizes[name] <= room:
        ways.append(lines + ((name,),))
    return ways
