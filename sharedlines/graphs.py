"""Graphs of states: what can be reached, by which runs, and with which gain.

Steps in a graph are tuples (thread, target, moves, number of the state
behind), in a list for each state. Gains are for each state a list of pairs
(gain, number of the state behind), in the order of its steps.
"""

from sharedlines.errors import TooManyStates


class Graph:
    """What can be reached. `states` is the list of states, `steps` that of their steps.

    The state with the number 0 is the first one, and no state stands ahead of
    one that can be reached by fewer steps.
    """

    def __init__(self, states, steps):
        self.states = states
        self.steps = steps


def explore(first, steps_of, most):
    """The graph of all that can be reached from a state.

    Raises TooManyStates() if these are more than most.
    """
    states = [first]
    numbers = {first: 0}
    steps = []
    while len(steps) < len(states):
        ahead = steps_of(states[len(steps)])
        row = []
        for thread, target, moves, behind in ahead:
            if behind not in numbers:
                if len(states) == most:
                    raise TooManyStates()
                numbers[behind] = len(states)
                states.append(behind)
            row.append((thread, target, moves, numbers[behind]))
        steps.append(row)
    return Graph(states, steps)


def shortest(steps, first):
    """For each state the last step of a shortest run to it, from the first one.

    It is a tuple (number of the state ahead, thread, target), and None for the
    first state and for those that cannot be reached from it.
    """
    last = [None] * len(steps)
    found = [first]
    at = 0
    while at < len(found):
        number = found[at]
        for thread, target, _, behind in steps[number]:
            if last[behind] is None and behind != first:
                last[behind] = (number, thread, target)
                found.append(behind)
        at += 1
    return last


def run_to(last, number):
    """The run to a state, a list of pairs (thread, target), by the last steps to each state."""
    run = []
    while last[number] is not None:
        number, thread, target = last[number]
        run.append((thread, target))
    run.reverse()
    return run


def components(ahead):
    """The lists of the states that lead to each other.

    A list comes behind those to which its states lead. ahead has for each
    state the numbers of the states behind its steps.
    """
    found = []
    passed = [False] * len(ahead)
    # The states from which most others lead on come last, so that a search
    # from one of them finds nothing new beyond those that lead back to it.
    for first in reversed(_left_in_order(_turned(ahead))):
        if not passed[first]:
            found.append(_passed_from(ahead, first, passed))
    return found


def _turned(ahead):
    back = [[] for _ in ahead]
    for number, row in enumerate(ahead):
        for behind in row:
            back[behind].append(number)
    return back


def _left_in_order(ahead):
    """All states in the order in which a search into the depth leaves them."""
    order = []
    passed = [False] * len(ahead)
    for first in range(len(ahead)):
        trail = [] if passed[first] else [(first, 0)]
        passed[first] = True
        while len(trail) > 0:
            number, at = trail.pop()
            if at == len(ahead[number]):
                order.append(number)
            else:
                trail.append((number, at + 1))
                behind = ahead[number][at]
                if not passed[behind]:
                    passed[behind] = True
                    trail.append((behind, 0))
    return order


def _passed_from(ahead, first, passed):
    """The states to which one leads without those that are passed; they are passed now."""
    passed[first] = True
    found = [first]
    at = 0
    while at < len(found):
        row = ahead[found[at]]
        for behind in row:
            if not passed[behind]:
                passed[behind] = True
                found.append(behind)
        at += 1
    return found


def gains_beyond(steps, top, bottom):
    """The gains of steps over a share: bottom * moves - top."""
    return [[(bottom * moves - top, behind) for _, _, moves, behind in row] for row in steps]


def are_totals(gains, numbers):
    """True if each number is at least each gain plus the number behind it."""
    return all([gain + numbers[behind] <= numbers[number]
                for number, row in enumerate(gains) for gain, behind in row])


def totals_or_loop(gains):
    """A pair: the greatest total gain of all ways from each state, and None.

    If there are no greatest ones, it is None and a loop with a gain: a list of
    pairs (number of a state, index of its step).
    """
    totals = [0] * len(gains)
    choices = [None] * len(gains)
    while _raise_totals(gains, totals, choices):
        # As each choice made a total greater, a ring of choices has a gain;
        # and as long as there is none, no total is beyond that of all ways
        # without a loop, so that a loop with a gain shows as a ring in time.
        ring = _ring(gains, choices)
        if ring is not None:
            return (None, ring)
    return (totals, None)


def _raise_totals(gains, totals, choices):
    """Raises totals to what the steps give, and tells if one was raised."""
    raised = False
    # Backwards, since most steps lead to states with higher numbers.
    for number in reversed(range(len(gains))):
        best = totals[number]
        for index, (gain, behind) in enumerate(gains[number]):
            if gain + totals[behind] > best:
                best = gain + totals[behind]
                choices[number] = index
        if best > totals[number]:
            totals[number] = best
            raised = True
    return raised


def _ring(gains, choices):
    """A ring of choices, a list of pairs (number, choice), or None."""
    passed = [None] * len(gains)
    for first in range(len(gains)):
        number = first
        while passed[number] is None and choices[number] is not None:
            passed[number] = first
            number = gains[number][choices[number]][1]
        if passed[number] == first:
            return _ring_from(gains, choices, number)
    return None


def _ring_from(gains, choices, first):
    ring = [(first, choices[first])]
    number = gains[first][choices[first]][1]
    while number != first:
        ring.append((number, choices[number]))
        number = gains[number][choices[number]][1]
    return ring
