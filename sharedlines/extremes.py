"""The greatest and the least numbers of moves in a graph, and the runs that have them.

The graph may tell of each step any gain from 0 in the place of its moves.
What is told of all states is told in the order of their numbers.
"""

from sharedlines.checks import is_table
from sharedlines.graphs import are_totals, components, gains_beyond, run_to, shortest


def by_state(graph, told):
    """A dict from the states of a graph to what is told of them."""
    return {state: value for state, value in zip(graph.states, told)}


def parts_of(steps):
    """The lists of states that lead to each other, and for each state the place of its list.

    A list comes behind those to which its states lead.
    """
    parts = components([[behind for _, _, _, behind in row] for row in steps])
    part_of = [None] * len(steps)
    for part, numbers in enumerate(parts):
        for number in numbers:
            part_of[number] = part
    return (parts, part_of)


def rests_of(steps):
    """The rest of each state."""
    parts, part_of = parts_of(steps)
    # All states that lead to each other have the same rest.
    rest_of_part = []
    for part, numbers in enumerate(parts):
        rest = 0
        all_steps = [step for number in numbers for step in steps[number]]
        for _, _, moves, behind in all_steps:
            if part_of[behind] != part:
                rest = _greater(rest, rest_of_part[part_of[behind]], moves)
            elif moves > 0:
                rest = None
        rest_of_part.append(rest)
    return [rest_of_part[part] for part in part_of]


def floors_of(steps):
    """The floor of each state, found backwards from those where all threads have ended."""
    back = [[] for _ in steps]
    for number, row in enumerate(steps):
        for _, _, moves, behind in row:
            back[behind].append((moves, number))
    found = [None] * len(steps)
    floor = 0
    at_floor = [number for number, row in enumerate(steps) if len(row) == 0]
    while len(at_floor) > 0:
        above = []
        while len(at_floor) > 0:
            number = at_floor.pop()
            if found[number] is None:
                found[number] = floor
                for moves, ahead in back[number]:
                    if moves == 0:
                        at_floor.append(ahead)
                    else:
                        above.append(ahead)
        at_floor = above
        floor += 1
    return found


def greatest_run_of(steps):
    """A run with the greatest number of moves, or None if there is no greatest number."""
    rests = rests_of(steps)
    return _run_by(steps, rests, [rest == 0 for rest in rests])


def least_run_of(steps):
    """A whole run with the least number of moves, or None if no run is whole."""
    return _run_by(steps, floors_of(steps), [len(row) == 0 for row in steps])


def endless_of(steps):
    """A run and a list of steps behind it that lead back with a move; None if there are none."""
    _, part_of = parts_of(steps)
    for number, row in enumerate(steps):
        for thread, target, moves, behind in row:
            if moves > 0 and part_of[behind] == part_of[number]:
                back = run_to(shortest(steps, behind), number)
                return (run_to(shortest(steps, 0), number), [(thread, target)] + back)
    return None


def are_bounds_of(graph, value):
    """True if a value is a dict from just the states to integers from 0 that no run exceeds."""
    if not is_table(value, graph.states):
        return False
    numbers = [value[state] for state in graph.states]
    return min(numbers) >= 0 and are_totals(gains_beyond(graph.steps, 0, 1), numbers)


def _greater(rest, rest_behind, moves):
    """The greater one of a rest and that of a step, where None is the greatest."""
    if rest is None or rest_behind is None:
        return None
    return max(rest, moves + rest_behind)


def _run_by(steps, numbers, ends):
    """A run to one of the ends that has all the moves that the numbers tell, or None.

    The start is none of the ends, since the first step of a run has a move.
    """
    kept = [[step for step in row if _keeps(numbers, number, step)] for number, row in enumerate(steps)]
    # A shortest run, since steps without a move can also lead in a ring.
    last = shortest(kept, 0)
    for number, is_end in enumerate(ends):
        if is_end and last[number] is not None:
            return run_to(last, number)
    return None


def _keeps(numbers, number, step):
    """True if the moves of a step and the number behind it are together its number."""
    _, _, moves, behind = step
    return numbers[behind] is not None and numbers[number] == moves + numbers[behind]
