"""Contests of two sides: caps, and tables that show that each side can keep to them.

One side picks a thread, the other one its target. By "targets" the side of the
targets spares moves and that of the threads presses for them; by "threads" it
is the other way round. Caps are told in the order of the numbers of the states.
"""

from sharedlines.checks import has_just_keys, is_integer, is_one_of, is_pair
from sharedlines.extremes import by_state
from sharedlines.steps import explored

MOST_CONTEST_STATES = 200
TARGETS = "targets"


def caps(layout, threads, by):
    """A dict from the states that can be reached to their caps."""
    graph = explored(layout, threads, MOST_CONTEST_STATES)
    numbers, _ = _caps_of(graph.steps, by)
    return by_state(graph, numbers)


def sparing(layout, threads, by):
    """A sparing table."""
    choices = _sparing_choices(explored(layout, threads, MOST_CONTEST_STATES), by)
    return {key: choices[key][0] for key in choices}


def pressing(layout, threads, by):
    """A pressing table."""
    graph = explored(layout, threads, MOST_CONTEST_STATES)
    numbers, presses = _caps_of(graph.steps, by)
    return {graph.states[number]: presses[number] for number, cap in enumerate(numbers) if cap != 0}


def are_sparing(layout, threads, by, table):
    """True if a value is a sparing table."""
    choices = _sparing_choices(explored(layout, threads, MOST_CONTEST_STATES), by)
    return has_just_keys(table, choices) and all([is_one_of(table[key], choices[key]) for key in choices])


def are_pressing(layout, threads, by, table):
    """True if a value is a pressing table."""
    graph = explored(layout, threads, MOST_CONTEST_STATES)
    numbers, _ = _caps_of(graph.steps, by)
    pressed = [number for number, cap in enumerate(numbers) if cap != 0]
    if not has_just_keys(table, [graph.states[number] for number in pressed]):
        return False
    rows = {number: _by_thread(graph.steps[number]) for number in pressed}
    entries = {number: table[graph.states[number]] for number in pressed}
    if not all([_is_entry(entries[number], rows[number], by) for number in pressed]):
        return False
    countdowns = {number: entries[number][1] for number in pressed}
    return all([_presses(numbers, countdowns, number, step)
                for number in pressed for step in _chosen(rows[number], by, entries[number][0])])


def _by_thread(row):
    """A dict from the threads that have not ended to lists of their steps (target, moves, behind)."""
    found = {}
    for thread, target, moves, behind in row:
        found.setdefault(thread, []).append((target, moves, behind))
    return found


def _caps_of(steps, by):
    """The caps, and for each state that has another one than 0 how it is pressed: (choice, countdown)."""
    rows = [_by_thread(row) for row in steps]
    numbers = [None] * len(rows)
    presses = [None] * len(rows)
    cap = 0
    is_new = True
    while is_new:
        # What cannot be forced beyond this cap has it. If nothing has it, no greater one is had either.
        forced = _forced(rows, by, numbers)
        is_new = False
        for number, known in enumerate(list(numbers)):
            if number in forced:
                presses[number] = forced[number]
            elif known is None:
                numbers[number] = cap
                is_new = True
        cap += 1
    return (numbers, presses)


def _forced(rows, by, numbers):
    """The states without a cap so far from which the pressing side can come to more than all caps so far.

    It comes to a move and a state without a cap so far behind it. A dict from
    the numbers of the states to pairs (choice, countdown).
    """
    forced = {}
    is_new = True
    while is_new:
        is_new = False
        # Backwards, since most steps lead to states with higher numbers.
        for number in reversed(range(len(rows))):
            if numbers[number] is None and number not in forced:
                choice = _press(rows[number], by, numbers, forced)
                if choice is not None:
                    # Steps without a move lead to states that were forced ahead of this one.
                    forced[number] = (choice, len(forced))
                    is_new = True
    return forced


def _press(row, by, numbers, forced):
    """The thread, or the dict of targets, by which the pressing side comes on, or None."""
    useful = {}
    for thread, steps in row.items():
        useful[thread] = [target for target, moves, behind in steps
                          if moves > 0 and numbers[behind] is None or moves == 0 and behind in forced]
    if by == TARGETS:
        whole = [thread for thread, steps in row.items() if len(useful[thread]) == len(steps)]
        return whole[0] if len(whole) > 0 else None
    if len(row) == 0 or not all([len(useful[thread]) > 0 for thread in row]):
        return None
    return {thread: useful[thread][0] for thread in row}


def _sparing_choices(graph, by):
    """A dict from the keys of a sparing table to lists of all that may stand there."""
    numbers, _ = _caps_of(graph.steps, by)
    found = {}
    for state, row, cap in zip(graph.states, graph.steps, numbers):
        if cap is not None:
            for thread, steps in _by_thread(row).items():
                kept = [target for target, moves, behind in steps
                        if numbers[behind] is not None and moves + numbers[behind] <= cap]
                if by == TARGETS:
                    found[(state, thread)] = kept
                elif len(kept) == len(steps):
                    found.setdefault(state, []).append(thread)
    return found


def _is_entry(value, row, by):
    """True if a value is a pair of a choice and a countdown."""
    if not is_pair(value) or not is_integer(value[1]) or value[1] < 0:
        return False
    choice = value[0]
    if by == TARGETS:
        return is_integer(choice) and choice in row
    if not has_just_keys(choice, row):
        return False
    return all([is_one_of(choice[thread], [target for target, _, _ in row[thread]]) for thread in row])


def _chosen(row, by, choice):
    """The steps that can come when the pressing side chose."""
    if by == TARGETS:
        return row[choice]
    return [step for thread in row for step in row[thread] if step[0] == choice[thread]]


def _presses(numbers, countdowns, number, step):
    """True if a step from a state with another cap than 0 comes on."""
    _, moves, behind = step
    cap, cap_behind = numbers[number], numbers[behind]
    if moves > 0:
        return cap_behind is None or cap is not None and cap_behind >= cap - 1
    if cap_behind == cap:
        return countdowns[behind] < countdowns[number]
    return cap_behind is None or cap is not None and cap_behind > cap
