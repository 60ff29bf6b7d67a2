"""A live run told once more, slowly and by other ways, for the tests to compare with.

It knows lines by their cells and threads by objects of their own, and tells
numbers only when it is asked.
"""

import copy

from tests import oracle


class Thread:
    def __init__(self, name, program):
        self.name = name
        self.program = program
        self.place = 0
        self.moves = 0


class Line:
    def __init__(self, cells):
        self.cells = set(cells)
        self.holders = []
        self.owner = None


class Model:
    def __init__(self, layout):
        self.sizes = layout.cells()
        self.room = layout.room
        self.lines = [Line(cells) for cells in layout.lines]
        self.threads = []
        self.moves = 0
        self.marks = []

    def ordered(self):
        return sorted(self.lines, key=lambda line: min(line.cells))

    def names(self):
        return [thread.name for thread in self.threads]

    def told_lines(self):
        return tuple(tuple(sorted(line.cells)) for line in self.ordered())

    def state(self):
        held = []
        for line in self.ordered():
            numbers = sorted(self.threads.index(thread) for thread in line.holders)
            held.append((tuple(numbers), line.owner is not None))
        return (tuple(thread.place for thread in self.threads), tuple(held))

    def by_thread(self):
        return {thread.name: thread.moves for thread in self.threads}

    def come(self, name, program):
        self.threads.append(Thread(name, program))

    def named(self, name):
        return [thread for thread in self.threads if thread.name == name][0]

    def go(self, name):
        thread = self.named(name)
        self.threads.remove(thread)
        for line in self.lines:
            if thread in line.holders:
                line.holders.remove(thread)
            if line.owner is thread:
                line.owner = None

    def step(self, name, target):
        thread = self.named(name)
        word, cell, targets = thread.program.nodes[thread.place]
        assert target in targets
        line = [line for line in self.lines if cell in line.cells][0]
        moves = 0
        if word == "read" and thread not in line.holders:
            moves = 1
            line.holders.append(thread)
            line.owner = None
        if word == "write" and line.owner is not thread:
            moves = 1
            line.holders = [thread]
            line.owner = thread
        thread.place = target
        thread.moves += moves
        self.moves += moves
        return moves

    def has_room(self, cell, number):
        """True if a cell can be moved to the line of a number, or to a new one."""
        if number == len(self.lines) or cell in self.ordered()[number].cells:
            return True
        return sum(self.sizes[other] for other in self.ordered()[number].cells) + self.sizes[cell] <= self.room

    def move_cell(self, cell, number):
        left = [line for line in self.lines if cell in line.cells][0]
        come = Line([]) if number == len(self.lines) else self.ordered()[number]
        if come is left:
            return
        if number == len(self.lines):
            self.lines.append(come)
        left.cells.remove(cell)
        come.cells.add(cell)
        for line in (left, come):
            line.holders = []
            line.owner = None
        if not left.cells:
            self.lines.remove(left)

    def mark(self):
        self.marks.append(copy.deepcopy((self.lines, self.threads, self.moves)))
        return len(self.marks) - 1

    def back(self, number):
        del self.marks[number + 1:]
        self.lines, self.threads, self.moves = copy.deepcopy(self.marks[number])

    def numbers(self, layout):
        """The rest and the floor of the state of now."""
        steps = oracle.table_from(layout, [thread.program for thread in self.threads], self.state())
        if len(steps) > 400:
            return None
        return [oracle.rests(steps)[self.state()], oracle.floors(steps)[self.state()]]
