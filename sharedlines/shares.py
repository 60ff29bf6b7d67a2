"""The greatest share of moves of all loops."""

from sharedlines.checks import is_table
from sharedlines.extremes import by_state
from sharedlines.graphs import are_totals, gains_beyond, run_to, shortest, totals_or_loop
from sharedlines.ratios import lowest
from sharedlines.steps import explored


def share(layout, threads):
    """The greatest share of all loops, or None if there is no loop."""
    best_share, _, _ = best_of(explored(layout, threads).steps)
    return best_share


def loop(layout, threads):
    """A run and a loop behind it that has the greatest share, or None if there is no loop."""
    steps = explored(layout, threads).steps
    _, ring, _ = best_of(steps)
    if ring is None:
        return None
    first, _ = ring[0]
    return (run_to(shortest(steps, 0), first), [steps[number][index][:2] for number, index in ring])


def weights(layout, threads):
    """Weights for the greatest share, or None if there is no loop."""
    graph = explored(layout, threads)
    best_share, _, totals = best_of(graph.steps)
    if best_share is None:
        return None
    return by_state(graph, totals)


def are_weights(layout, threads, some_share, weights):
    """True if weights are a dict from the states to integers that shows that no loop has a greater share."""
    graph = explored(layout, threads)
    if not is_table(weights, graph.states):
        return False
    top, bottom = some_share
    return are_totals(gains_beyond(graph.steps, top, bottom), [weights[state] for state in graph.states])


def best_of(steps):
    """The greatest share, a loop that has it, and the weights for it, by the numbers of the states.

    The loop is a list of pairs (number of a state, index of its step). Without
    any loop there is neither a share nor a loop.
    """
    best_share = None
    best_ring = None
    # Each loop has a gain over this share, since it is less than any.
    totals, ring = totals_or_loop(gains_beyond(steps, -1, 1))
    while ring is not None:
        best_ring = ring
        best_share = _share_of(steps, ring)
        top, bottom = best_share
        totals, ring = totals_or_loop(gains_beyond(steps, top, bottom))
    return (best_share, best_ring, totals)


def _share_of(steps, ring):
    """The fraction of the moves and the steps of a loop."""
    return lowest(sum([steps[number][index][2] for number, index in ring]), len(ring))
