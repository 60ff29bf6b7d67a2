"""The greatest and the least numbers of moves of all runs."""

from sharedlines.extremes import (
    are_bounds_of, by_state, endless_of, floors_of, greatest_run_of, least_run_of, rests_of)
from sharedlines.steps import explored


def greatest(layout, threads):
    """The greatest number of moves of all runs, or None."""
    return rests_of(explored(layout, threads).steps)[0]


def least(layout, threads):
    """The least number of moves of all whole runs, or None."""
    return floors_of(explored(layout, threads).steps)[0]


def rests(layout, threads):
    """A dict from the states that can be reached to their rests."""
    graph = explored(layout, threads)
    return by_state(graph, rests_of(graph.steps))


def floors(layout, threads):
    """A dict from the states that can be reached to their floors."""
    graph = explored(layout, threads)
    return by_state(graph, floors_of(graph.steps))


def greatest_run(layout, threads):
    """A run with the greatest number of moves, or None if there is no greatest number."""
    return greatest_run_of(explored(layout, threads).steps)


def least_run(layout, threads):
    """A whole run with the least number of moves, or None if no run is whole."""
    return least_run_of(explored(layout, threads).steps)


def endless(layout, threads):
    """A run and a list of steps behind it that lead back with a move; None if there are none."""
    return endless_of(explored(layout, threads).steps)


def are_bounds(layout, threads, bounds):
    """True if bounds are a dict from the states to integers that no run exceeds."""
    return are_bounds_of(explored(layout, threads), bounds)
