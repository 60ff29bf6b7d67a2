"""Layouts of the same cells compared, and what lying together does in a run."""

from sharedlines.errors import OtherCells
from sharedlines.graphs import run_to, shortest, totals_or_loop
from sharedlines.layouts import own
from sharedlines.moves import READ, WRITE, followed
from sharedlines.steps import explored_jointly, moves_of


class Touch:
    """What came on a line behind the last step of a thread there."""

    def __init__(self, is_owned):
        self.is_owned = is_owned
        self.first_step = None
        self.first_write = None

    def note(self, word, index):
        """Notes a step of another thread on the line."""
        if self.first_step is None:
            self.first_step = index
        if self.first_write is None and word == WRITE:
            self.first_write = index

    def cause(self, word):
        """The index of the cause of a move of the thread, or None."""
        if word == READ:
            return self.first_write
        return self.first_step if self.is_owned else None


def parting_run(first, second, threads):
    """A run with the fewest steps whose last one has a move in one layout only, or None."""
    steps = _explored_pairs(first, second, threads).steps
    # States that fewer steps reach come first, so the first such step will do.
    for number, row in enumerate(steps):
        for thread, target, moves, _ in row:
            if moves[0] != moves[1]:
                return run_to(shortest(steps, 0), number) + [(thread, target)]
    return None


def lead(first, second, threads):
    """The greatest lead of the first layout over the second one, or None."""
    steps = _explored_pairs(first, second, threads).steps
    gains = [[(moves[0] - moves[1], behind) for _, _, moves, behind in row] for row in steps]
    totals, _ = totals_or_loop(gains)
    return None if totals is None else totals[0]


def together(layout, threads, run):
    """The numbers of the moves of a run that are owed to lying together, and saved by it."""
    both = _moves_of_both(layout, threads, run)
    owed = [moves for moves, own_moves in both if moves > own_moves]
    saved = [moves for moves, own_moves in both if moves < own_moves]
    return (len(owed), len(saved))


def causes(layout, threads, run):
    """For each step of a run the index of the cause of its move, or None."""
    touches = {}
    found = []
    for index, (thread, place, moves, behind) in enumerate(followed(layout, threads, run)):
        word, cell, _ = threads[thread].nodes[place]
        line = layout.line_of(cell)
        cause = None
        if moves > 0 and (thread, line) in touches:
            cause = touches[(thread, line)].cause(word)
        found.append(cause)
        for other in range(len(threads)):
            if other != thread and (other, line) in touches:
                touches[(other, line)].note(word, index)
        # The thread holds the line now: if it is owned, then by this thread.
        touches[(thread, line)] = Touch(behind[1][line][1])
    return found


def helpers(layout, threads, run):
    """For each step of a run the index of its helper if its move is saved, or None."""
    both = _moves_of_both(layout, threads, run)
    latest = {}
    found = []
    for index, (thread, place, _, _) in enumerate(followed(layout, threads, run)):
        word, cell, _ = threads[thread].nodes[place]
        moves, own_moves = both[index]
        helper = None
        if moves < own_moves:
            words = (WRITE,) if word == WRITE else (READ, WRITE)
            keys = [(thread, mate, one) for mate in _mates(layout, cell) for one in words]
            helper = max([latest[key] for key in keys if key in latest], default=None)
        found.append(helper)
        latest[(thread, cell, word)] = index
    return found


def _explored_pairs(first, second, threads):
    """The graph of the pairs of states of two layouts that the same run can reach."""
    if first.cells() != second.cells():
        raise OtherCells()
    return explored_jointly((first, second), threads)


def _moves_of_both(layout, threads, run):
    """For each step of a run a pair of its moves in a layout, and in the own layout of its cells."""
    moves = moves_of(layout, threads, run)
    own_moves = moves_of(own(layout.cells()), threads, run)
    return list(zip(moves, own_moves))


def _mates(layout, cell):
    """The other cells of the line of a cell."""
    return [name for name in layout.lines[layout.line_of(cell)] if name != cell]
