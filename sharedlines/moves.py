"""What the steps of threads do to their places and to lines."""

from sharedlines.checks import is_integer_within, is_one_of, is_pair
from sharedlines.errors import BadRun

READ = "read"
WRITE = "write"
NOT_HELD = ((), False)


def placed(layout, threads):
    """For each thread its nodes as tuples (line, writes, targets).

    Raises UnknownCell(cell) for the first cell that the layout does not have.
    """
    return [[(layout.line_of(cell), word == WRITE, targets) for word, cell, targets in program.nodes]
            for program in threads]


def places_at_start(threads):
    """The places of threads that stand at their first nodes."""
    return tuple([0 for _ in threads])


def lines_at_start(layout):
    """The lines of a layout that no thread holds."""
    return tuple([NOT_HELD for _ in layout.lines])


def steps_ahead(nodes, state):
    """All steps from a state, as tuples (thread, target, moves, state behind)."""
    places, lines = state
    found = []
    for thread, place in enumerate(places):
        if place is not None:
            node = nodes[thread][place]
            moves, lines_behind = _touched(lines, thread, node)
            for target in node[2]:
                found.append((thread, target, moves, (_exchanged(places, thread, target), lines_behind)))
    return found


def joint_start(layouts, threads):
    """The pair of the places and the tuple of the lines of each layout at the start."""
    return (places_at_start(threads), tuple([lines_at_start(layout) for layout in layouts]))


def joint_steps_ahead(sides, state):
    """All steps from a pair (places, tuple of the lines of each side).

    Sides are what `placed` tells of each of some layouts. A step has a tuple
    of its moves in each of them.
    """
    places, lines_of_sides = state
    rows = [steps_ahead(nodes, (places, lines)) for nodes, lines in zip(sides, lines_of_sides)]
    found = []
    # The steps of all sides are the same, in the same order, but for what they do to lines.
    for steps in zip(*rows):
        thread, target, _, (places_behind, _) = steps[0]
        moves = tuple([step[2] for step in steps])
        found.append((thread, target, moves, (places_behind, tuple([step[3][1] for step in steps]))))
    return found


def step_behind(nodes, state, thread, target):
    """The moves of a step, and the state behind it."""
    places, lines = state
    moves, lines_behind = _touched(lines, thread, nodes[thread][places[thread]])
    return (moves, (_exchanged(places, thread, target), lines_behind))


def followed(layout, threads, run):
    """For each step of a run a tuple (thread, place, moves, state behind).

    The place is that of the thread ahead of the step. The run may be any
    value; raises BadRun(index) for the first thing that is no step there.
    """
    nodes = placed(layout, threads)
    if not isinstance(run, list):
        raise BadRun(0)
    state = (places_at_start(threads), lines_at_start(layout))
    found = []
    for index, step in enumerate(run):
        places, _ = state
        if not _is_step(nodes, places, step):
            raise BadRun(index)
        thread, target = step
        moves, state = step_behind(nodes, state, thread, target)
        found.append((thread, places[thread], moves, state))
    return found


def is_running(places, value):
    """True if a value is the number of a thread that has not ended."""
    return is_integer_within(value, 0, len(places) - 1) and places[value] is not None


def _touched(lines, thread, node):
    """The moves when a thread carries out a node, and the lines behind it."""
    number, writes, _ = node
    holders, is_owned = lines[number]
    if thread in holders and (is_owned or not writes):
        return (0, lines)
    held = (thread,) if writes else tuple(sorted([*holders, thread]))
    return (1, _exchanged(lines, number, (held, writes)))


def _exchanged(values, at, value):
    """A tuple with another value at one place."""
    return values[:at] + (value,) + values[at + 1:]


def _is_step(nodes, places, value):
    if not is_pair(value):
        return False
    thread, target = value
    return is_running(places, thread) and is_one_of(target, nodes[thread][places[thread]][2])
