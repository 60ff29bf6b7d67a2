"""Runs that keep turns: no thread makes many steps in a row while others could go on.

A state in turns is a tuple (state, last thread, its steps in a row), where no
more steps in a row are counted than the number of the turns.
"""

from sharedlines.extremes import floors_of, greatest_run_of, rests_of
from sharedlines.graphs import explore
from sharedlines.moves import followed, placed, steps_ahead
from sharedlines.steps import MOST_STATES, start


def keeps_turns(layout, threads, run, turn):
    """True if a run keeps turns."""
    last, many = None, 0
    places, _ = start(layout, threads)
    for thread, _, _, behind in followed(layout, threads, run):
        if not _may_go(places, last, many, turn, thread):
            return False
        last, many = thread, _in_a_row(last, many, turn, thread)
        places, _ = behind
    return True


def greatest_in_turns(layout, threads, turn):
    """The greatest number of moves of all runs that keep turns, or None."""
    return rests_of(_explored_in_turns(layout, threads, turn).steps)[0]


def least_in_turns(layout, threads, turn):
    """The least number of moves of all whole runs that keep turns, or None."""
    return floors_of(_explored_in_turns(layout, threads, turn).steps)[0]


def turn_run(layout, threads, turn):
    """A run that keeps turns and has the greatest number of moves, or None."""
    return greatest_run_of(_explored_in_turns(layout, threads, turn).steps)


def _explored_in_turns(layout, threads, turn):
    """The graph of the states in turns that can be reached. Raises TooManyStates()."""
    nodes = placed(layout, threads)
    first = (start(layout, threads), None, 0)
    return explore(first, lambda ahead: _steps_in_turns(nodes, turn, ahead), MOST_STATES)


def _steps_in_turns(nodes, turn, ahead):
    state, last, many = ahead
    return [(thread, target, moves, (behind, thread, _in_a_row(last, many, turn, thread)))
            for thread, target, moves, behind in steps_ahead(nodes, state)
            if _may_go(state[0], last, many, turn, thread)]


def _may_go(places, last, many, turn, thread):
    """True if a step of a thread keeps turns."""
    if thread != last or many < turn:
        return True
    return all([place is None for other, place in enumerate(places) if other != thread])


def _in_a_row(last, many, turn, thread):
    """The steps in a row of a thread with one more step."""
    return min(many + 1, turn) if thread == last else 1
