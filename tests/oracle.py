"""What DOC.md says of steps and runs, told once more, slowly and by other ways.

The tests compare the package with this. It takes nothing from the package but
layouts and programs, whose lines and nodes it reads.
"""

from fractions import Fraction

MOST = 3000


def at_start(layout, threads):
    return (tuple(0 for _ in threads), tuple(((), False) for _ in layout.lines))


def line_of(layout, cell):
    return next(number for number, line in enumerate(layout.lines) if cell in line)


def after(layout, threads, state, thread, target):
    """A pair of the moves of a step and the state behind it, by point 7."""
    places, lines = list(state[0]), list(state[1])
    word, cell, targets = threads[thread].nodes[places[thread]]
    assert target in targets
    places[thread] = target
    number = line_of(layout, cell)
    held = set(lines[number][0])
    owner = lines[number][0][0] if lines[number][1] else None
    if word == "read":
        moves = 0 if thread in held else 1
        if moves:
            held.add(thread)
            owner = None
    else:
        moves = 0 if owner == thread else 1
        if moves:
            held = {thread}
            owner = thread
    lines[number] = (tuple(sorted(held)), owner is not None)
    return moves, (tuple(places), tuple(lines))


def ahead(layout, threads, state):
    """All steps (thread, target, moves, state behind), in the order that the interface tells."""
    found = []
    for thread, place in enumerate(state[0]):
        if place is not None:
            for target in threads[thread].nodes[place][2]:
                found.append((thread, target, *after(layout, threads, state, thread, target)))
    return found


def table(layout, threads):
    """A dict from the states that can be reached to their steps."""
    return table_from(layout, threads, at_start(layout, threads))


def table_from(layout, threads, first):
    """A dict from the states that can be reached from one to their steps."""
    found = {}
    todo = [first]
    while todo:
        state = todo.pop()
        if state not in found:
            found[state] = ahead(layout, threads, state)
            assert len(found) <= MOST
            todo.extend(step[3] for step in found[state])
    return found


def pair_table(first, second, threads):
    """A dict from the pairs of states that the same run can reach to their steps, with pairs of moves."""
    found = {}
    todo = [(at_start(first, threads), at_start(second, threads))]
    while todo:
        pair = todo.pop()
        if pair not in found:
            found[pair] = [
                (one[0], one[1], (one[2], two[2]), (one[3], two[3]))
                for one, two in zip(ahead(first, threads, pair[0]), ahead(second, threads, pair[1]))]
            assert len(found) <= MOST
            todo.extend(step[3] for step in found[pair])
    return found


def follow(layout, threads, run):
    """The moves of the steps of a run, and the states ahead of and behind them."""
    states = [at_start(layout, threads)]
    moves = []
    for thread, target in run:
        moves_now, state = after(layout, threads, states[-1], thread, target)
        moves.append(moves_now)
        states.append(state)
    return moves, states


def best_totals(steps, gain):
    """The greatest total gain of all ways from each state, with None on loops that have a gain.

    Gains are at most 1.
    """
    # On such a loop, totals grow beyond the number of states.
    limit = len(steps)
    totals = {state: 0 for state in steps}
    changed = True
    while changed:
        changed = False
        for state, row in steps.items():
            best = max([totals[state]] + [gain(step) + totals[step[3]] for step in row])
            if best > totals[state] and totals[state] < limit:
                totals[state] = min(best, limit)
                changed = True
    return {state: None if total >= limit else total for state, total in totals.items()}


def rests(steps):
    return best_totals(steps, lambda step: step[2])


def floors(steps):
    found = {state: None if row else 0 for state, row in steps.items()}
    changed = True
    while changed:
        changed = False
        for state, row in steps.items():
            for _, _, moves, behind in row:
                if found[behind] is not None and (found[state] is None or found[state] > moves + found[behind]):
                    found[state] = moves + found[behind]
                    changed = True
    return found


def lead(first, second, threads):
    steps = pair_table(first, second, threads)
    totals = best_totals(steps, lambda step: step[2][0] - step[2][1])
    if None in totals.values():
        return None
    return totals[(at_start(first, threads), at_start(second, threads))]


def parting_length(first, second, threads):
    """The number of steps of parting runs, or None."""
    steps = pair_table(first, second, threads)
    level = [(at_start(first, threads), at_start(second, threads))]
    seen = set(level)
    length = 1
    while level:
        following = []
        for pair in level:
            for _, _, (one, two), behind in steps[pair]:
                if one != two:
                    return length
                if behind not in seen:
                    seen.add(behind)
                    following.append(behind)
        level = following
        length += 1
    return None


def share(steps, first):
    """The greatest share of all loops, by Karp's theorem, as a pair, or None."""
    many = len(steps)
    rows = [{first: 0}]
    for _ in range(many):
        row = {}
        for state, total in rows[-1].items():
            for _, _, moves, behind in steps[state]:
                if row.get(behind, -1) < total + moves:
                    row[behind] = total + moves
        rows.append(row)
    means = [
        min(Fraction(total - rows[k][state], many - k) for k in range(many) if state in rows[k])
        for state, total in rows[many].items()]
    return max(means).as_integer_ratio() if means else None


def kinds(steps, threads):
    found = []
    for thread, program in enumerate(threads):
        row = []
        for node in range(len(program.nodes)):
            moves = {step[2] for state in steps for step in steps[state]
                     if step[0] == thread and state[0][thread] == node}
            row.append({frozenset(): "unreached", frozenset({0}): "never", frozenset({1}): "always",
                        frozenset({0, 1}): "sometimes"}[frozenset(moves)])
        found.append(row)
    return found


def all_lines(cells, room):
    """The lines of all layouts of some cells and a room, by their numbers, then by themselves."""
    found = []

    def put(names, lines):
        if not names:
            found.append(tuple(sorted(tuple(sorted(line)) for line in lines)))
            return
        for line in lines:
            put(names[1:], [other + [names[0]] if other is line else other for other in lines])
        put(names[1:], lines + [[names[0]]])

    put(list(cells), [])
    kept = [lines for lines in found if all(sum(cells[name] for name in line) <= room for line in lines)]
    return sorted(kept, key=lambda lines: (len(lines), lines))


def keeps_turns(layout, threads, run, turn):
    """True if a run keeps turns, told as point 13 tells it."""
    _, states = follow(layout, threads, run)
    for index, (thread, _) in enumerate(run):
        others = [place for other, place in enumerate(states[index][0]) if other != thread]
        if any(place is not None for place in others):
            row = 0
            while row < index and run[index - 1 - row][0] == thread:
                row += 1
            if row >= turn:
                return False
    return True


def turn_table(layout, threads, turn):
    """A dict from pairs of a state and the latest threads, not more than turn, to their steps."""
    found = {}
    todo = [(at_start(layout, threads), ())]
    while todo:
        state, latest = key = todo.pop()
        if key not in found:
            found[key] = []
            for thread, target, moves, behind in ahead(layout, threads, state):
                alone = all(place is None for other, place in enumerate(state[0]) if other != thread)
                if alone or latest != (thread,) * turn:
                    found[key].append((thread, target, moves, (behind, (latest + (thread,))[-turn:])))
            assert len(found) <= 5 * MOST
            todo.extend(step[3] for step in found[key])
    return found


def turn_states(steps, turn):
    """The number of states that differ in the last thread, or in its steps in a row."""
    found = set()
    for state, latest in steps:
        row = 0
        while row < len(latest) and latest[-1 - row] == latest[-1]:
            row += 1
        found.add((state, latest[-1:], row))
    return len(found)


def behind_of(steps):
    """A dict from each state to the set of those that can be reached from it, itself included."""
    found = {}
    for first in steps:
        passed = {first}
        todo = [first]
        while todo:
            for step in steps[todo.pop()]:
                if step[3] not in passed:
                    passed.add(step[3])
                    todo.append(step[3])
        found[first] = passed
    return found


def are_mean_rests(steps, threads, odds, means):
    """True if a dict meets all that point 20 says, told with fractions."""
    if set(means) != set(steps):
        return False
    reach = behind_of(steps)
    moving = {state for state in steps if any(step[2] and state in reach[step[3]] for step in steps[state])}
    bad = {state for state in steps if all(state in reach[other] for other in reach[state])
           and any(other in moving for other in reach[state])}
    for state, row in steps.items():
        if reach[state] & bad:
            if means[state] is not None:
                return False
        elif not any(step[2] for other in reach[state] for step in steps[other]):
            if means[state] != (0, 1):
                return False
        else:
            there = [thread for thread, place in enumerate(state[0]) if place is not None]
            mean = 0
            for thread, _, moves, behind in row:
                targets = threads[thread].nodes[state[0][thread]][2]
                chance = Fraction(odds[thread], sum(odds[other] for other in there)) / len(targets)
                mean += chance * (moves + Fraction(*means[behind]))
            if (mean.numerator, mean.denominator) != means[state]:
                return False
    return True


def touched(layout, threads, states, run, index):
    """The word, the cell and the number of the line of a step of a run."""
    thread = run[index][0]
    word, cell, _ = threads[thread].nodes[states[index][0][thread]]
    return word, cell, line_of(layout, cell)


def causes(layout, threads, run):
    """The causes of the moves of a run, as point 15 seeks them."""
    moves, states = follow(layout, threads, run)
    steps = [touched(layout, threads, states, run, index) for index in range(len(run))]
    found = []
    for index, (thread, _) in enumerate(run):
        word, _, line = steps[index]
        earlier = [k for k in range(index) if run[k][0] == thread and steps[k][2] == line]
        cause = None
        if moves[index] and earlier:
            behind = [k for k in range(earlier[-1] + 1, index) if run[k][0] != thread and steps[k][2] == line]
            owned = states[earlier[-1] + 1][1][line] == ((thread,), True)
            if word == "read":
                cause = [k for k in behind if steps[k][0] == "write"][0]
            elif owned:
                cause = behind[0]
        found.append(cause)
    return found


def helpers(layout, own, threads, run):
    """The helpers of the saved moves of a run, by point 15."""
    moves, states = follow(layout, threads, run)
    own_moves, _ = follow(own, threads, run)
    steps = [touched(layout, threads, states, run, index) for index in range(len(run))]
    found = []
    for index, (thread, _) in enumerate(run):
        word, cell, line = steps[index]
        helper = None
        if own_moves[index] and not moves[index]:
            helper = [k for k in range(index) if run[k][0] == thread and steps[k][2] == line
                      and steps[k][1] != cell and word in ("read", steps[k][0])][-1]
        found.append(helper)
    return found
