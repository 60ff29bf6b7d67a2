"""Layouts with threads for the tests: by hand, at random, and of the greatest size."""

import random

from sharedlines.layouts import Layout, all_layouts
from sharedlines.programs import Program

SHORT = {"x": 1, "y": 1, "z": 1}
TOGETHER = Layout({"x": 1, "y": 1}, 2, [["x", "y"]])
APART = Layout({"x": 1, "y": 1}, 1, [["x"], ["y"]])
XY = Layout(SHORT, 2, [["x", "y"], ["z"]])
YZ = Layout(SHORT, 2, [["x"], ["y", "z"]])
OWN = Layout(SHORT, 1, [["x"], ["y"], ["z"]])
ONE = Layout(SHORT, 3, [["x", "y", "z"]])


def parsed(*texts):
    return [Program.parse(text) for text in texts]


# (layout, threads), each with something of its own.
BY_HAND = [
    (TOGETHER, parsed("write x -> 1\nwrite x", "write y")),
    (APART, parsed("write x -> 1\nwrite x", "write y")),
    (TOGETHER, parsed("write x -> 0", "write y -> 0 end")),
    (APART, parsed("write x -> 0", "write y -> 0 end")),
    (TOGETHER, parsed("read x")),
    (TOGETHER, parsed("read x -> 0")),
    (TOGETHER, parsed("read x -> end\nwrite y -> 0")),
    (TOGETHER, parsed("read x -> 0 1\nwrite x")),
    (TOGETHER, parsed("read x -> 1\nread y -> 0", "read y -> 1\nread x -> 0 end")),
    (APART, parsed("read x -> 1\nread y -> 0", "write y -> 1\nread x -> 0 end")),
    (TOGETHER, parsed("write x -> 1\nread y -> 2\nwrite y", "read x -> 1\nread x", "read y")),
    (XY, parsed("write x -> 1 end\nread y -> 0", "read x -> 1\nwrite z -> 0 end")),
    (YZ, parsed("write x -> 1 end\nread y -> 0", "read x -> 1\nwrite z -> 0 end")),
    (ONE, parsed("write x -> 1\nread y -> 2\nwrite z -> 0", "read x")),
    (OWN, parsed("write x -> 1\nread y -> 2\nwrite z -> 0", "write x -> 0 1\nwrite y -> 1")),
    (ONE, parsed("read x -> 1\nwrite x -> 2\nread x -> 1", "read z", "write y -> end")),
]

EIGHT_ROWS = "\n".join(["read x -> 0 1 2 3 4 5 6 7 end"] * 8)

# (layout, threads) with just 1,000 states that can be reached.
THOUSAND = [
    (TOGETHER, parsed(EIGHT_ROWS, EIGHT_ROWS, EIGHT_ROWS)),
    (XY, parsed("write z -> 2\nread z -> 2\nwrite y -> 1 2", "read z -> 0 2\nread x -> 2 end\nwrite x -> 1",
                "read x -> 1 3\nread x -> 2\nread x -> 4\nwrite z -> 1\nread x -> 3")),
    (XY, parsed("read y -> 1\nread y -> 2\nread y -> 4\nwrite z -> 0\nread z -> 3",
                "read z -> 3\nwrite x -> 1\nread y -> 1\nread y -> 2",
                "read y -> 2\nwrite y -> 0\nwrite z -> 1 end\nread x -> 0 1")),
    (XY, parsed("write z -> 0 2\nwrite x -> 3 end\nread y -> 4 end\nread z -> 0 1\nwrite x -> 0",
                "write x -> 1\nwrite z -> 3\nread y -> 1\nwrite x -> end",
                "read y -> 3\nwrite y -> 4\nread z -> 1\nwrite y -> 2\nread z -> 0 end")),
]

# The same with just 1,001 states: 7 times 11 times 13 of threads that only read, and by chance.
THOUSAND_AND_ONE = [
    (OWN, parsed("read x -> 2\nread y -> 0\nread x -> 0 1", "read x -> 1 3\nread x -> 2 end\nread x -> 0\nread y -> 2",
                 "read y -> 1 2\nread x -> 0 end\nread z -> 1 2")),
    (XY, parsed("write z -> 3\nwrite y -> 2 3\nread y -> 1 3\nread z -> 1 3",
                "read x -> 1 end\nread y -> 0 2\nread z -> 0", "write z -> 1 end\nwrite y -> 1 end")),
]

# Threads by which XY and YZ reach 216 and 343 states, and 1,000 pairs of them.
THOUSAND_PAIRS = parsed(*["read y -> 1 2\nread x -> 2\nread z -> 0"] * 3)

# The same with 4 * 7 * 7 and 5 * 6 * 7 states, and 7 * 11 * 13 pairs.
THOUSAND_AND_ONE_PAIRS = parsed(
    "read y -> 1 2\nread x -> 1 2\nread z -> 2", "read y -> 1 2\nread z -> 1 2\nread x -> 0",
    "read y -> 1\nread y -> 2 3\nread z -> 1\nread x -> 1")

# Threads that reach far more than 1,000 states on each of these layouts.
MANY = parsed(*["\n".join(["write x -> 0 1 2 3 4 5 6 7 end", "read y -> 0 1 2 3 4 5 6 7 end"] * 4)] * 3)


def random_program(source, cells, most_nodes):
    many = source.randint(1, most_nodes)
    rows = []
    for _ in range(many):
        row = source.choice(["read", "write"]) + " " + source.choice(cells)
        words = [str(number) for number in range(many)] + ["end"]
        picked = source.sample(words, min(len(words), source.choice([0, 1, 1, 2, 3])))
        if picked:
            row += " -> " + " ".join(word for word in words if word in picked)
        rows.append(row)
    return Program.parse("\n".join(rows))


def random_cases(seed, many, most_nodes=3, most_threads=3):
    """A list of (layout, another layout of the same cells, threads)."""
    source = random.Random(seed)
    found = []
    for _ in range(many):
        names = "uvxyz"[:source.randint(1, 4)]
        layouts = all_layouts({name: 1 for name in names}, source.randint(1, 4))
        threads = [random_program(source, names, most_nodes) for _ in range(source.randint(1, most_threads))]
        found.append((source.choice(layouts), source.choice(layouts), threads))
    return found


def random_rings(seed, many):
    """A list of (layout, threads), where two threads go round through all of their nodes."""
    source = random.Random(seed)
    found = []
    for _ in range(many):
        threads = []
        for _ in range(2):
            length = source.randint(1, 5)
            rows = [source.choice(["read", "write"]) + " " + source.choice("xyz") for _ in range(length)]
            threads.append("\n".join(f"{row} -> {(at + 1) % length}" for at, row in enumerate(rows)))
        found.append((source.choice([XY, YZ, ONE, OWN]), parsed(*threads)))
    return found


def random_run(seed, threads, length):
    """A run of so many steps, or of fewer if all threads have ended."""
    source = random.Random(seed)
    places = [0 for _ in threads]
    run = []
    while len(run) < length and any(place is not None for place in places):
        thread = source.choice([k for k, place in enumerate(places) if place is not None])
        target = source.choice(threads[thread].nodes[places[thread]][2])
        places[thread] = target
        run.append((thread, target))
    return run
