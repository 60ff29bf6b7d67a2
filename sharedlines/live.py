"""Live runs: cells are moved, and threads come and go, while the run goes on."""

from sharedlines.checks import is_integer_within, is_one_of
from sharedlines.errors import BadTarget, NameTaken, TooManyThreads, UnknownMark, UnknownThread
from sharedlines.extremes import floors_of, rests_of
from sharedlines.moves import NOT_HELD, lines_at_start, placed, step_behind
from sharedlines.steps import explored_from

MOST_THREADS = 3


class Live:
    """A live run. It begins without threads."""

    def __init__(self, layout):
        self._layout = layout
        self._names = ()
        self._programs = ()
        self._state = ((), lines_at_start(layout))
        # The moves of each thread that is there; those that went are in the sum only.
        self._counts = ()
        self._sum = 0
        self._marks = []

    def layout(self):
        """The layout of now."""
        return self._layout

    def names(self):
        """The list of the names of the threads, in order."""
        return list(self._names)

    def state(self):
        """The state of now."""
        return self._state

    def moves(self):
        """The counted moves."""
        return self._sum

    def come(self, name, program):
        """A thread comes under a name."""
        if name in self._names:
            raise NameTaken(name)
        if len(self._names) == MOST_THREADS:
            raise TooManyThreads()
        # Only for UnknownCell.
        placed(self._layout, [program])
        places, lines = self._state
        self._names = self._names + (name,)
        self._programs = self._programs + (program,)
        self._counts = self._counts + (0,)
        self._state = (places + (0,), lines)

    def go(self, name):
        """A thread goes."""
        thread = self._number_of(name)
        places, lines = self._state
        self._names = _without(self._names, thread)
        self._programs = _without(self._programs, thread)
        self._counts = _without(self._counts, thread)
        self._state = (_without(places, thread), tuple([_let_go(line, thread) for line in lines]))

    def step(self, name, target):
        """A thread makes a step to a target; its moves are returned."""
        thread = self._number_of(name)
        place = self._state[0][thread]
        if place is None or not is_one_of(target, self._programs[thread].nodes[place][2]):
            raise BadTarget()
        moves, self._state = step_behind(placed(self._layout, self._programs), self._state, thread, target)
        counts = list(self._counts)
        counts[thread] += moves
        self._counts = tuple(counts)
        self._sum += moves
        return moves

    def move_cell(self, cell, line):
        """Moves a cell to another line, or to a new one."""
        moved = self._layout.moved(cell, line)
        left = self._layout.line_of(cell)
        if line == left:
            return
        places, lines = self._state
        # Lines that keep their cells may get other numbers, so they are known by their cells.
        kept = {names: lines[number] for number, names in enumerate(self._layout.lines)
                if number not in (left, line)}
        self._layout = moved
        self._state = (places, tuple([kept.get(names, NOT_HELD) for names in moved.lines]))

    def left(self):
        """The rest of the state of now."""
        return rests_of(self._ahead())[0]

    def least_left(self):
        """The floor of the state of now."""
        return floors_of(self._ahead())[0]

    def mark(self):
        """Sets a mark and returns its number."""
        self._marks.append((self._layout, self._names, self._programs, self._state, self._counts, self._sum))
        return len(self._marks) - 1

    def back(self, number):
        """Goes back to a mark, which stays; later marks end."""
        if not is_integer_within(number, 0, len(self._marks) - 1):
            raise UnknownMark(number)
        self._marks = self._marks[:number + 1]
        self._layout, self._names, self._programs, self._state, self._counts, self._sum = self._marks[number]

    def by_thread(self):
        """A dict from the names of the threads that are there to the moves of their steps."""
        return dict(zip(self._names, self._counts))

    def _number_of(self, name):
        """The number of the thread with a name, which may be any value."""
        if name not in self._names:
            raise UnknownThread(name)
        return self._names.index(name)

    def _ahead(self):
        """The steps of all states that can be reached from the state of now."""
        return explored_from(self._layout, self._programs, self._state).steps


def _without(values, at):
    """A tuple without what stands at one place."""
    return values[:at] + values[at + 1:]


def _let_go(line, thread):
    """What is held of a line when a thread has gone."""
    holders, is_owned = line
    others = [other for other in holders if other != thread]
    return (tuple([other - 1 if other > thread else other for other in others]),
            is_owned and thread not in holders)
