"""What the steps of threads do to their places and to lines."""

from sharedlines.checks import is_integer, is_integer_within, is_pair
from sharedlines.errors import BadRun

READ = "read"
WRITE = "write"
NOT_HELD = ((), False)


def placed(layout, threads):
    """For each thread its nodes as tuples (line, writes, targets).

    Raises UnknownCell(cell) for the first cell that the layout does not have.
    """
    return [[(layout.line_of(cell), word == WRITE, targets) for word, cell, targets in program.nodes]
            for program in threads]


def places_at_start(threads):
    """The places of threads that stand at their first nodes."""
    return tuple([0 for _ in threads])


def lines_at_start(layout):
    """The lines of a layout that no thread holds."""
    return tuple([NOT_HELD for _ in layout.lines])


def steps_ahead(nodes, state):
    """All steps from a state, as tuples (thread, target, moves, state behind)."""
    places, lines = state
    return [(thread, target, moves[0], (behind[0], behind[1][0]))
            for thread, target, moves, behind in joint_steps_ahead([nodes], (places, (lines,)))]


def joint_steps_ahead(sides, state):
    """All steps from a pair (places, tuple of the lines of each side).

    Sides are what `placed` tells of each of some layouts. A step has a tuple
    of its moves in each of them.
    """
    places, lines_of_sides = state
    found = []
    for thread, place in enumerate(places):
        if place is not None:
            touches = [_touched(lines, thread, nodes[thread][place])
                       for nodes, lines in zip(sides, lines_of_sides)]
            moves = tuple([touch[0] for touch in touches])
            behind = tuple([touch[1] for touch in touches])
            for target in sides[0][thread][place][2]:
                found.append((thread, target, moves, (_exchanged(places, thread, target), behind)))
    return found


def followed(layout, threads, run):
    """For each step of a run a tuple (thread, place, moves, state behind).

    The place is that of the thread ahead of the step. The run may be any
    value; raises BadRun(index) for the first thing that is no step there.
    """
    nodes = placed(layout, threads)
    if not isinstance(run, list):
        raise BadRun(0)
    places, lines = places_at_start(threads), lines_at_start(layout)
    found = []
    for index, step in enumerate(run):
        if not _is_step(nodes, places, step):
            raise BadRun(index)
        thread, target = step
        place = places[thread]
        moves, lines = _touched(lines, thread, nodes[thread][place])
        places = _exchanged(places, thread, target)
        found.append((thread, place, moves, (places, lines)))
    return found


def _touched(lines, thread, node):
    """The moves when a thread carries out a node, and the lines behind it."""
    number, writes, _ = node
    holders, is_owned = lines[number]
    if thread in holders and (is_owned or not writes):
        return (0, lines)
    held = (thread,) if writes else tuple(sorted([*holders, thread]))
    return (1, _exchanged(lines, number, (held, writes)))


def _exchanged(values, at, value):
    """A tuple with another value at one place."""
    return values[:at] + (value,) + values[at + 1:]


def _is_step(nodes, places, value):
    if not is_pair(value):
        return False
    thread, target = value
    if not is_integer_within(thread, 0, len(places) - 1) or places[thread] is None:
        return False
    # Only integers and None are looked up: False is 0, and True is 1.
    if target is not None and not is_integer(target):
        return False
    return target in nodes[thread][places[thread]][2]
