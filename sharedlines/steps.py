"""States, steps and runs of threads on a layout."""

from sharedlines.checks import is_integer_within, is_pair
from sharedlines.errors import BadState
from sharedlines.graphs import explore
from sharedlines.moves import (
    followed, joint_start, joint_steps_ahead, lines_at_start, placed, places_at_start, steps_ahead)

MOST_STATES = 1000


def start(layout, threads):
    """The state at the start."""
    # Only for UnknownCell: the start does not depend on the nodes.
    placed(layout, threads)
    return (places_at_start(threads), lines_at_start(layout))


def steps_from(layout, threads, state):
    """The list of all steps from a state, as tuples (thread, target, moves, state behind)."""
    nodes = placed(layout, threads)
    if not _is_state(layout, threads, state):
        raise BadState()
    return steps_ahead(nodes, state)


def moves_of(layout, threads, run):
    """The list of the moves, 0 or 1, of the steps of a run."""
    return [moves for _, _, moves, _ in followed(layout, threads, run)]


def reached(layout, threads):
    """The list of the states that can be reached."""
    return explored(layout, threads).states


def node_kinds(layout, threads):
    """For each thread the list of the kinds of its nodes."""
    graph = explored(layout, threads)
    free = [[False] * len(program.nodes) for program in threads]
    paid = [[False] * len(program.nodes) for program in threads]
    for state, row in zip(graph.states, graph.steps):
        for thread, _, moves, _ in row:
            table = free if moves == 0 else paid
            table[thread][state[0][thread]] = True
    return [[_kind(is_free, is_paid) for is_free, is_paid in zip(of_free, of_paid)]
            for of_free, of_paid in zip(free, paid)]


def explored(layout, threads, most=MOST_STATES):
    """The graph of the states that can be reached. Raises TooManyStates() if they are more than most."""
    return explored_from(layout, threads, start(layout, threads), most)


def explored_from(layout, threads, state, most=MOST_STATES):
    """The graph of the states that can be reached from a state. Raises TooManyStates()."""
    nodes = placed(layout, threads)
    return explore(state, lambda ahead: steps_ahead(nodes, ahead), most)


def explored_jointly(layouts, threads, most=MOST_STATES):
    """The graph of the joint states of some layouts, with tuples of moves. Raises TooManyStates()."""
    sides = [placed(layout, threads) for layout in layouts]
    return explore(joint_start(layouts, threads), lambda ahead: joint_steps_ahead(sides, ahead), most)


def _kind(is_free, is_paid):
    """The kind of a node with steps without a move, and with a move, or not."""
    if is_free and is_paid:
        return "sometimes"
    if is_paid:
        return "always"
    return "never" if is_free else "unreached"


def _is_state(layout, threads, value):
    if not is_pair(value):
        return False
    places, lines = value
    if not isinstance(places, tuple) or len(places) != len(threads):
        return False
    if not isinstance(lines, tuple) or len(lines) != len(layout.lines):
        return False
    if not all([_is_place(program, place) for program, place in zip(threads, places)]):
        return False
    return all([_is_held(line, len(threads)) for line in lines])


def _is_place(program, value):
    return value is None or is_integer_within(value, 0, len(program.nodes) - 1)


def _is_held(value, many):
    """True if a value tells how so many threads can hold a line."""
    if not is_pair(value):
        return False
    holders, is_owned = value
    if not isinstance(holders, tuple) or not isinstance(is_owned, bool):
        return False
    if not all([is_integer_within(thread, 0, many - 1) for thread in holders]):
        return False
    if is_owned and len(holders) != 1:
        return False
    return list(holders) == sorted(set(holders))
