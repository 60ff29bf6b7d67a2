"""Finding the layout: how many steps it takes at most until just one is possible."""

from sharedlines.checks import has_just_keys, is_one_of
from sharedlines.extremes import by_state
from sharedlines.situations import choices_of, explored_situations


def finding(mixture, threads):
    """The finding number of the beginning, or None."""
    return finding_numbers_of(explored_situations(mixture, threads))[0]


def finding_numbers(mixture, threads):
    """A dict from the situations that can be reached to their finding numbers."""
    graph = explored_situations(mixture, threads)
    return by_state(graph, finding_numbers_of(graph))


def are_finding_numbers(mixture, threads, numbers):
    """True if a value is the dict of the finding numbers."""
    expected = finding_numbers(mixture, threads)
    if not has_just_keys(numbers, expected):
        return False
    return all([is_one_of(numbers[situation], (number,)) for situation, number in expected.items()])


def finding_numbers_of(graph):
    """The finding number of each situation of a graph, in order."""
    choices = [choices_of(row) for row in graph.steps]
    numbers = [0 if len(possible) == 1 else None for _, possible in graph.states]
    many = 0
    is_new = True
    while is_new:
        # In turns, so that none is told more steps than it takes.
        many += 1
        found = [number for number, row in enumerate(choices)
                 if numbers[number] is None and any([surely_finds(numbers, choice, many) for choice in row])]
        for number in found:
            numbers[number] = many
        is_new = len(found) > 0
    return numbers


def surely_finds(numbers, choice, many):
    """True if a step begins a way of so many steps, whatever is seen."""
    _, _, seen = choice
    return all([numbers[behind] is not None and numbers[behind] < many for _, behind in seen])
