"""What can be reached on the layouts of a mixture, and what is seen of it."""

from sharedlines.graphs import explore
from sharedlines.moves import joint_start, joint_steps_ahead, placed
from sharedlines.steps import explored_jointly

MOST_JOINT_STATES = 200
MOST_SITUATIONS = 400


def explored_mixture(mixture, threads):
    """The graph of the joint states. Raises TooManyStates()."""
    return explored_jointly(_layouts_of(mixture), threads, MOST_JOINT_STATES)


def explored_situations(mixture, threads):
    """The graph of the situations. Raises TooManyStates().

    Its steps are tuples (thread, target, moves that are seen, number of the
    situation behind). Where it depends on the layout whether a step has a move,
    it stands there twice, side by side.
    """
    # Ahead of the situations, since the joint states have a limit of their own.
    explored_mixture(mixture, threads)
    layouts = _layouts_of(mixture)
    sides = [placed(layout, threads) for layout in layouts]
    first = (joint_start(layouts, threads), tuple(range(len(layouts))))
    return explore(first, lambda situation: _seen_steps(sides, situation), MOST_SITUATIONS)


def choices_of(row):
    """The steps of a situation as tuples (thread, target, list of pairs (seen moves, number behind))."""
    found = []
    for thread, target, seen, behind in row:
        if len(found) > 0 and found[-1][:2] == (thread, target):
            found[-1][2].append((seen, behind))
        else:
            found.append((thread, target, [(seen, behind)]))
    return found


def _layouts_of(mixture):
    return [layout for _, layout in mixture.pairs()]


def _seen_steps(sides, situation):
    joint, possible = situation
    found = []
    for thread, target, moves, behind in joint_steps_ahead(sides, joint):
        for seen in (0, 1):
            still = tuple([place for place in possible if moves[place] == seen])
            if len(still) > 0:
                found.append((thread, target, seen, (behind, still)))
    return found
