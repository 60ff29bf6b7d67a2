"""Hidden layouts: one of a mixture is drawn, and who runs the threads does not see which."""

from sharedlines.checks import is_integer_within, is_pair, is_table
from sharedlines.errors import BadMixture
from sharedlines.extremes import are_bounds_of, by_state, greatest_run_of, parts_of, rests_of
from sharedlines.graphs import Graph
from sharedlines.greatest import greatest
from sharedlines.layouts import Layout
from sharedlines.ratios import lowest
from sharedlines.situations import choices_of, explored_mixture, explored_situations

MOST_LAYOUTS = 3
GREATEST_PART = 1000


class Mixture:
    """A list of pairs (part, layout), one of which is drawn by its part."""

    def __init__(self, pairs):
        if not _are_pairs(pairs):
            raise BadMixture()
        self._pairs = list(pairs)

    def __eq__(self, other):
        return isinstance(other, Mixture) and self._pairs == other._pairs

    def pairs(self):
        """The list of the pairs."""
        return list(self._pairs)


def blind(mixture, threads):
    """The blind number, or None."""
    return _mean(mixture, rests_of(_weighted(mixture, threads).steps)[0])


def revealed(mixture, threads):
    """The revealed number, or None."""
    # Only for TooManyStates.
    explored_mixture(mixture, threads)
    total = 0
    for part, layout in mixture.pairs():
        most = greatest(layout, threads)
        if most is None:
            return None
        total += part * most
    return _mean(mixture, total)


def seeing(mixture, threads):
    """The seeing number, or None."""
    values = _values_of(explored_situations(mixture, threads), mixture)
    return None if values is None else _mean(mixture, values[0])


def blind_run(mixture, threads):
    """A run with the blind number as its mixed moves, or None."""
    return greatest_run_of(_weighted(mixture, threads).steps)


def blind_bounds(mixture, threads):
    """Blind bounds with the least number for the beginning, or None."""
    graph = _weighted(mixture, threads)
    rests = rests_of(graph.steps)
    return None if rests[0] is None else by_state(graph, rests)


def are_blind_bounds(mixture, threads, bounds):
    """True if a value is blind bounds."""
    return are_bounds_of(_weighted(mixture, threads), bounds)


def seeing_values(mixture, threads):
    """A dict from the situations to their seeing values, or None."""
    graph = explored_situations(mixture, threads)
    values = _values_of(graph, mixture)
    return None if values is None else by_state(graph, values)


def are_seeing_bounds(mixture, threads, bounds):
    """True if a value is seeing bounds."""
    graph = explored_situations(mixture, threads)
    if not is_table(bounds, graph.states):
        return False
    parts = _possible_parts(graph, mixture)
    numbers = [bounds[situation] for situation in graph.states]
    return min(numbers) >= 0 and all([_worth(parts, numbers, choice) <= numbers[number]
                                      for number, row in enumerate(graph.steps) for choice in choices_of(row)])


def seeing_plan(mixture, threads):
    """A dict from the situations with a value above 0 to tuples (thread, target, countdown), or None."""
    graph = explored_situations(mixture, threads)
    values = _values_of(graph, mixture)
    if values is None:
        return None
    plan = _plan_of(graph, _possible_parts(graph, mixture), values)
    return {graph.states[number]: plan[number] for number in plan}


def _are_pairs(value):
    if not isinstance(value, list) or not 1 <= len(value) <= MOST_LAYOUTS:
        return False
    if not all([_is_part_with_layout(pair) for pair in value]):
        return False
    layouts = [layout for _, layout in value]
    # Layouts with the same lines are different if their rooms are.
    return all([layout.cells() == layouts[0].cells() and layout not in layouts[:place]
                for place, layout in enumerate(layouts)])


def _is_part_with_layout(value):
    return is_pair(value) and is_integer_within(value[0], 1, GREATEST_PART) and isinstance(value[1], Layout)


def _mean(mixture, total):
    """A total over all parts, divided by their sum; None if there is no total."""
    if total is None:
        return None
    return lowest(total, sum([part for part, _ in mixture.pairs()]))


def _weighted(mixture, threads):
    """The graph of the joint states, with the parts of the layouts in which a step has a move as its moves."""
    graph = explored_mixture(mixture, threads)
    parts = [part for part, _ in mixture.pairs()]
    steps = [[(thread, target, sum([part * move for part, move in zip(parts, moves)]), behind)
              for thread, target, moves, behind in row] for row in graph.steps]
    return Graph(graph.states, steps)


def _possible_parts(graph, mixture):
    """For each situation the sum of the parts of the layouts that are possible."""
    parts = [part for part, _ in mixture.pairs()]
    return [sum([parts[place] for place in possible]) for _, possible in graph.states]


def _worth(parts, values, choice):
    """The parts of the layouts in which a step has a move, and the values behind it, together."""
    _, _, seen = choice
    return sum([moves * parts[behind] + values[behind] for moves, behind in seen])


def _values_of(graph, mixture):
    """The seeing value of each situation, or None if they have none."""
    _, part_of = parts_of(graph.steps)
    if any([moves > 0 and part_of[behind] == part_of[number]
            for number, row in enumerate(graph.steps) for _, _, moves, behind in row]):
        return None
    parts = _possible_parts(graph, mixture)
    choices = [choices_of(row) for row in graph.steps]
    values = [0] * len(choices)
    is_new = True
    while is_new:
        is_new = False
        # Backwards, since most steps lead to situations with higher numbers.
        for number in reversed(range(len(choices))):
            best = max([_worth(parts, values, choice) for choice in choices[number]], default=0)
            if best > values[number]:
                values[number] = best
                is_new = True
    return values


def _plan_of(graph, parts, values):
    """A dict from the numbers of the situations with a value above 0 to what is to be done there."""
    choices = [[choice for choice in choices_of(row) if _worth(parts, values, choice) == values[number]]
               for number, row in enumerate(graph.steps)]
    plan = {}
    is_new = True
    while is_new:
        is_new = False
        for number in reversed(range(len(choices))):
            if values[number] > 0 and number not in plan:
                ready = [choice for choice in choices[number] if _comes_to_a_move(choice, plan)]
                if len(ready) > 0:
                    # Steps without a move lead to situations that came into the plan ahead of this one.
                    plan[number] = (ready[0][0], ready[0][1], len(plan))
                    is_new = True
    return plan


def _comes_to_a_move(choice, plan):
    """True if a step has a move in a possible layout, or leads to where the plan goes on."""
    _, _, seen = choice
    return any([moves > 0 or behind in plan for moves, behind in seen])
