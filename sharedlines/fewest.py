"""Layouts with few lines that keep a bound, and layouts with a small greatest share."""

from sharedlines.errors import NoLayout
from sharedlines.extremes import endless_of, greatest_run_of, rests_of
from sharedlines.layouts import all_layouts, own
from sharedlines.moves import placed
from sharedlines.ratios import is_less
from sharedlines.shares import best_of
from sharedlines.steps import explored


def fewest_lines(cells, room, threads, bound):
    """A layout that keeps a bound, with as few lines as possible."""
    # Layouts with fewer lines come first.
    for layout, most in _told_of_all(cells, room, threads, lambda steps: rests_of(steps)[0]):
        if most is not None and most <= bound:
            return layout
    raise NoLayout()


def shortfalls(cells, room, threads, bound, many):
    """A pair (layout, run beyond the bound) for each layout with fewer than many lines.

    None if one of these layouts keeps the bound.
    """
    found = []
    for layout, run in _told_of_all(cells, room, threads, lambda steps: _run_beyond(steps, bound)):
        if len(layout.lines) < many:
            if run is None:
                return None
            found.append((layout, list(run)))
    return found


def calmest(cells, room, threads):
    """A pair of a layout with the least greatest share, and this share, None if there are no loops."""
    best = None
    for layout, share in _told_of_all(cells, room, threads, lambda steps: best_of(steps)[0]):
        # Loops come from the programs: either each layout has some, or none has.
        if best is None or share is not None and is_less(share, best[1]):
            best = (layout, share)
    if best is None:
        raise NoLayout()
    return best


def _told_of_all(cells, room, threads, told_of):
    """A list of pairs (layout, what is told of its steps) for all layouts, in their order."""
    layouts = all_layouts(cells, room)
    # Ahead of the layouts, since there may be none that could miss a cell.
    placed(own(cells), threads)
    used = [cell for program in threads for _, cell, _ in program.nodes]
    told = {}
    found = []
    for layout in layouts:
        # Cells that no thread uses make no difference.
        key = _lines_with(layout, used)
        if key not in told:
            told[key] = told_of(explored(layout, threads).steps)
        found.append((layout, told[key]))
    return found


def _lines_with(layout, used):
    """The lines of a layout without the cells that are not used."""
    lines = [tuple([name for name in line if name in used]) for line in layout.lines]
    return tuple(sorted([line for line in lines if len(line) > 0]))


def _run_beyond(steps, bound):
    """A run with more moves than a bound, or None if there is none."""
    most = rests_of(steps)[0]
    if most is None:
        run, ring = endless_of(steps)
        # Each round has one move or more.
        return run + ring * (bound + 1)
    return greatest_run_of(steps) if most > bound else None
