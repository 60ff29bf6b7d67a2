"""Mean rests: how many moves come if threads and targets are drawn."""

from math import gcd, lcm

from sharedlines.checks import has_just_keys, is_fraction, is_integer_within
from sharedlines.errors import BadOdds
from sharedlines.extremes import by_state, parts_of, rests_of
from sharedlines.ratios import lowest
from sharedlines.steps import explored

MOST_DRAWN_STATES = 40
GREATEST_ODDS = 9


def mean_rests(layout, threads, odds):
    """A dict from the states that can be reached to their mean rests."""
    graph = explored(layout, threads, MOST_DRAWN_STATES)
    if not _are_odds(odds, len(threads)):
        raise BadOdds()
    return by_state(graph, _means_of(graph.steps, odds))


def are_means(layout, threads, odds, means):
    """True if a value is the dict of the mean rests."""
    expected = mean_rests(layout, threads, odds)
    if not has_just_keys(means, expected):
        return False
    return all([_is_mean(means[state], mean) for state, mean in expected.items()])


def _are_odds(value, many):
    if not isinstance(value, list) or len(value) != many:
        return False
    return all([is_integer_within(one, 1, GREATEST_ODDS) for one in value])


def _is_mean(value, mean):
    """True if a value is just this mean rest: no booleans in the place of integers."""
    if mean is None:
        return value is None
    return is_fraction(value) and value == mean


def _means_of(steps, odds):
    """The mean rest of each state."""
    rests = rests_of(steps)
    endless = _are_endless(steps, rests)
    means = [None if is_endless else (0, 1) for is_endless in endless]
    open_numbers = [number for number, rest in enumerate(rests) if rest != 0 and not endless[number]]
    column_of = {number: column for column, number in enumerate(open_numbers)}
    rows = [_equation(steps[number], odds, column_of, column_of[number]) for number in open_numbers]
    for number, mean in zip(open_numbers, _solved(rows)):
        means[number] = mean
    return means


def _are_endless(steps, rests):
    """For each state, whether moves go on for ever from one that can be reached from it.

    That is so from a list of states that lead to each other and nowhere else,
    if they have no rest: in the long run each of their steps is drawn again
    and again.
    """
    parts, part_of = parts_of(steps)
    is_endless_part = []
    for numbers in parts:
        part = part_of[numbers[0]]
        beyond = [part_of[behind] for number in numbers for _, _, _, behind in steps[number]
                  if part_of[behind] != part]
        is_endless_part.append(any([is_endless_part[other] for other in beyond])
                               or len(beyond) == 0 and rests[numbers[0]] is None)
    return [is_endless_part[part] for part in part_of]


def _equation(row, odds, column_of, column):
    """The factors of the unknown mean rests in the equation of one of them, and what they add up to."""
    weights = _weights(row, odds)
    factors = [0] * (len(column_of) + 1)
    factors[column] = sum(weights)
    for weight, (_, _, moves, behind) in zip(weights, row):
        factors[-1] += weight * moves
        if behind in column_of:
            factors[column_of[behind]] -= weight
    return factors


def _weights(row, odds):
    """Integers that are to each other as the chances of the steps of a state."""
    many = {}
    for thread, _, _, _ in row:
        many[thread] = many.get(thread, 0) + 1
    common = 1
    for thread in many:
        common = lcm(common, many[thread])
    return [odds[thread] * common // many[thread] for thread, _, _, _ in row]


def _solved(rows):
    """The fractions that solve the equations.

    From each of these states steps lead to others that are known, sooner or
    later; so no equation loses its own unknown while others are cleared.
    """
    many = len(rows)
    for at in range(many):
        for other in range(many):
            if other != at and rows[other][at] != 0:
                rows[other] = _cleared(rows[other], rows[at], at)
    return [lowest(row[-1], row[at]) for at, row in enumerate(rows)]


def _cleared(row, by_row, at):
    """An equation without one unknown, by another equation."""
    mixed = [value * by_row[at] - row[at] * by_value for value, by_value in zip(row, by_row)]
    divisor = 0
    for value in mixed:
        divisor = gcd(divisor, value)
    return [value // divisor for value in mixed]
