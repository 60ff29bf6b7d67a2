"""The greatest and the least numbers of moves of all runs."""

from sharedlines.checks import is_table
from sharedlines.graphs import are_totals, components, gains_beyond, run_to, shortest
from sharedlines.steps import explored


def greatest(layout, threads):
    """The greatest number of moves of all runs, or None."""
    return _rests(explored(layout, threads).steps)[0]


def least(layout, threads):
    """The least number of moves of all whole runs, or None."""
    return _floors(explored(layout, threads).steps)[0]


def rests(layout, threads):
    """A dict from the states that can be reached to their rests."""
    graph = explored(layout, threads)
    return _by_state(graph, _rests(graph.steps))


def floors(layout, threads):
    """A dict from the states that can be reached to their floors."""
    graph = explored(layout, threads)
    return _by_state(graph, _floors(graph.steps))


def greatest_run(layout, threads):
    """A run with the greatest number of moves, or None if there is no greatest number."""
    steps = explored(layout, threads).steps
    numbers = _rests(steps)
    return _run_by(steps, numbers, [number == 0 for number in numbers])


def least_run(layout, threads):
    """A whole run with the least number of moves, or None if no run is whole."""
    steps = explored(layout, threads).steps
    return _run_by(steps, _floors(steps), [len(row) == 0 for row in steps])


def endless(layout, threads):
    """A run and a list of steps behind it that lead back with a move; None if there are none."""
    steps = explored(layout, threads).steps
    part_of = _part_of_each(_parts(steps), len(steps))
    for number, row in enumerate(steps):
        for thread, target, moves, behind in row:
            if moves > 0 and part_of[behind] == part_of[number]:
                back = run_to(shortest(steps, behind), number)
                return (run_to(shortest(steps, 0), number), [(thread, target)] + back)
    return None


def are_bounds(layout, threads, bounds):
    """True if bounds are a dict from the states to integers that no run exceeds."""
    graph = explored(layout, threads)
    if not is_table(bounds, graph.states):
        return False
    numbers = [bounds[state] for state in graph.states]
    return min(numbers) >= 0 and are_totals(gains_beyond(graph.steps, 0, 1), numbers)


def _by_state(graph, numbers):
    return {state: number for state, number in zip(graph.states, numbers)}


def _parts(steps):
    """The lists of states that lead to each other, each behind those to which it leads."""
    return components([[behind for _, _, _, behind in row] for row in steps])


def _part_of_each(parts, many):
    part_of = [None] * many
    for part, numbers in enumerate(parts):
        for number in numbers:
            part_of[number] = part
    return part_of


def _rests(steps):
    """The rest of each state: all states that lead to each other have the same one."""
    parts = _parts(steps)
    part_of = _part_of_each(parts, len(steps))
    rest_of_part = []
    for part, numbers in enumerate(parts):
        rest = 0
        all_steps = [step for number in numbers for step in steps[number]]
        for _, _, moves, behind in all_steps:
            if part_of[behind] != part:
                rest = _greater(rest, rest_of_part[part_of[behind]], moves)
            elif moves > 0:
                rest = None
        rest_of_part.append(rest)
    return [rest_of_part[part] for part in part_of]


def _greater(rest, rest_behind, moves):
    """The greater one of a rest and that of a step, where None is the greatest."""
    if rest is None or rest_behind is None:
        return None
    return max(rest, moves + rest_behind)


def _floors(steps):
    """The floor of each state, found backwards from those where all threads have ended."""
    back = [[] for _ in steps]
    for number, row in enumerate(steps):
        for _, _, moves, behind in row:
            back[behind].append((moves, number))
    found = [None] * len(steps)
    floor = 0
    at_floor = [number for number, row in enumerate(steps) if len(row) == 0]
    while len(at_floor) > 0:
        above = []
        while len(at_floor) > 0:
            number = at_floor.pop()
            if found[number] is None:
                found[number] = floor
                for moves, ahead in back[number]:
                    if moves == 0:
                        at_floor.append(ahead)
                    else:
                        above.append(ahead)
        at_floor = above
        floor += 1
    return found


def _run_by(steps, numbers, ends):
    """A run to one of the ends that has all the moves that the numbers tell, or None.

    The start is none of the ends, since the first step of a run has a move.
    """
    kept = [[step for step in row if _keeps(numbers, number, step)] for number, row in enumerate(steps)]
    # A shortest run, since steps without a move can also lead in a ring.
    last = shortest(kept, 0)
    for number, is_end in enumerate(ends):
        if is_end and last[number] is not None:
            return run_to(last, number)
    return None


def _keeps(numbers, number, step):
    """True if the moves of a step and the number behind it are together its number."""
    _, _, moves, behind = step
    return numbers[behind] is not None and numbers[number] == moves + numbers[behind]
