"""What DOC.md says of two sides, hidden layouts and finding, told once more by slower ways."""

from fractions import Fraction

from tests import oracle


def by_thread(row):
    """A dict from threads to lists of their steps."""
    found = {}
    for step in row:
        found.setdefault(step[0], []).append(step)
    return found


def caps(steps, by):
    """The caps: what the pressing side can get within more and more steps, up to the number of the states."""
    limit = len(steps)
    found = {state: 0 for state in steps}
    changed = True
    while changed:
        changed = False
        for state, row in steps.items():
            if not row:
                continue
            totals = [[step[2] + found[step[3]] for step in some] for some in by_thread(row).values()]
            if by == "targets":
                cap = max(min(some) for some in totals)
            else:
                cap = min(max(some) for some in totals)
            cap = min(cap, limit)
            if cap > found[state]:
                found[state] = cap
                changed = True
    return {state: None if cap >= limit else cap for state, cap in found.items()}


def is_number(value):
    return type(value) is int


def infinite(cap):
    return float("inf") if cap is None else cap


def is_sparing(steps, by, table, numbers=None):
    """True if a table is a sparing table by point 22; it has the kinds that are asked for."""
    numbers = numbers or caps(steps, by)
    wanted = set()
    for state, row in steps.items():
        if numbers[state] is None:
            continue
        if by == "targets":
            wanted |= {(state, thread) for thread in by_thread(row)}
        elif row:
            wanted.add(state)
    if set(table) != wanted:
        return False
    for key, told in table.items():
        state, thread = (key[0], key[1]) if by == "targets" else (key, told)
        some = [step for step in steps[state] if step[0] == thread and (by == "threads" or step[1] == told)]
        if not some or any(infinite(numbers[step[3]]) + step[2] > numbers[state] for step in some):
            return False
    return True


def is_pressing(steps, by, table, numbers=None):
    """True if a table is a pressing table by point 22; it has the kinds that are asked for."""
    numbers = numbers or caps(steps, by)
    if set(table) != {state for state in steps if numbers[state] != 0}:
        return False
    for state, (told, countdown) in table.items():
        if countdown < 0:
            return False
        if by == "targets":
            some = [step for step in steps[state] if step[0] == told]
            if not some:
                return False
        else:
            some = [step for step in steps[state] if step[0] in told and step[1] == told[step[0]]]
            if set(told) != set(by_thread(steps[state])) or len(some) != len(told):
                return False
        for step in some:
            cap, behind = infinite(numbers[state]), infinite(numbers[step[3]])
            if step[2]:
                if behind < cap - 1:
                    return False
            elif not (behind > cap or behind == cap and table[step[3]][1] < countdown):
                return False
    return True


def joint_table(layouts, threads):
    """A dict from the joint states that can be reached to their steps, with tuples of moves."""
    found = {}
    starts = [oracle.at_start(layout, threads) for layout in layouts]
    todo = [(starts[0][0], tuple(lines for _, lines in starts))]
    while todo:
        joint = todo.pop()
        if joint in found:
            continue
        found[joint] = []
        rows = [oracle.ahead(layout, threads, (joint[0], lines)) for layout, lines in zip(layouts, joint[1])]
        for steps in zip(*rows):
            behind = (steps[0][3][0], tuple(step[3][1] for step in steps))
            found[joint].append((steps[0][0], steps[0][1], tuple(step[2] for step in steps), behind))
            todo.append(behind)
        assert len(found) <= oracle.MOST
    return found


def joint_start(layouts, threads):
    return (tuple(0 for _ in threads), tuple(oracle.at_start(layout, threads)[1] for layout in layouts))


def situation_start(layouts, threads):
    return (joint_start(layouts, threads), tuple(range(len(layouts))))


def situation_table(layouts, threads):
    """A dict from the situations that can be reached to their steps.

    These are tuples (thread, target, dict from the moves that are seen to the situation behind).
    """
    joint = joint_table(layouts, threads)
    found = {}
    todo = [situation_start(layouts, threads)]
    while todo:
        situation = todo.pop()
        if situation in found:
            continue
        found[situation] = []
        for thread, target, moves, behind in joint[situation[0]]:
            seen = {}
            for place in situation[1]:
                seen.setdefault(moves[place], []).append(place)
            found[situation].append(
                (thread, target, {kind: (behind, tuple(places)) for kind, places in seen.items()}))
            todo.extend(found[situation][-1][2].values())
        assert len(found) <= oracle.MOST
    return found


def greatest(layout, threads):
    return oracle.rests(oracle.table(layout, threads))[oracle.at_start(layout, threads)]


def pair_of(fraction):
    return (fraction.numerator, fraction.denominator)


def revealed(parts, layouts, threads):
    numbers = [greatest(layout, threads) for layout in layouts]
    if None in numbers:
        return None
    return pair_of(Fraction(sum(part * number for part, number in zip(parts, numbers)), sum(parts)))


def worth(parts, values, seen):
    """What a step of a situation is worth: the parts with a move, and the values behind it."""
    return sum(values[behind] + (sum(parts[place] for place in behind[1]) if kind else 0)
               for kind, behind in seen.items())


def blind_values(parts, layouts, threads):
    """A dict from the joint states to the greatest parts of moves that can come; None if there are none."""
    if None in [greatest(layout, threads) for layout in layouts]:
        return None
    table = joint_table(layouts, threads)
    values = {joint: 0 for joint in table}
    changed = True
    while changed:
        changed = False
        for joint, row in table.items():
            for _, _, moves, behind in row:
                total = sum(part * move for part, move in zip(parts, moves)) + values[behind]
                if total > values[joint]:
                    values[joint] = total
                    changed = True
    return values


def seeing_values(parts, layouts, threads):
    """A dict from the situations to their values; None if one of the layouts has no greatest number."""
    if None in [greatest(layout, threads) for layout in layouts]:
        return None
    table = situation_table(layouts, threads)
    values = {situation: 0 for situation in table}
    changed = True
    while changed:
        changed = False
        for situation, row in table.items():
            for _, _, seen in row:
                total = worth(parts, values, seen)
                if total > values[situation]:
                    values[situation] = total
                    changed = True
    return values


def is_plan(parts, layouts, threads, plan):
    """True if a dict is a seeing plan by point 26."""
    table = situation_table(layouts, threads)
    values = seeing_values(parts, layouts, threads)
    if set(plan) != {situation for situation, value in values.items() if value > 0}:
        return False
    for situation, (thread, target, countdown) in plan.items():
        some = [seen for one, other, seen in table[situation] if (one, other) == (thread, target)]
        if not is_number(countdown) or countdown < 0 or not some:
            return False
        if worth(parts, values, some[0]) != values[situation]:
            return False
        if list(some[0]) == [0] and plan[some[0][0]][2] >= countdown:
            return False
    return True


def finding_numbers(table):
    """A dict from the situations of a table to their finding numbers."""
    found = {situation: 0 for situation in table if len(situation[1]) == 1}
    many = 0
    while True:
        many += 1
        new = [situation for situation, row in table.items() if situation not in found
               and any(all(behind in found for behind in seen.values()) for _, _, seen in row)]
        if not new:
            return {situation: found.get(situation) for situation in table}
        found.update({situation: many for situation in new})
