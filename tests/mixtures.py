"""Mixtures with threads for the tests: by hand, at random, and of the greatest size."""

import random

from sharedlines.hidden import Mixture
from sharedlines.layouts import Layout, all_layouts
from tests import oracle_sides
from tests.cases import APART, ONE, OWN, SHORT, TOGETHER, XY, YZ, parsed, random_program

XZ = Layout(SHORT, 2, [["x", "z"], ["y"]])
FOUR = {"w": 1, "x": 1, "y": 1, "z": 1}
FIRST = Layout(FOUR, 2, [["w"], ["x", "y"], ["z"]])
SECOND = Layout(FOUR, 2, [["w"], ["x"], ["y", "z"]])
WIDE = Layout({"x": 1, "y": 1}, 32, [["x", "y"]])

EXAMPLE = ([(1, FIRST), (1, SECOND)],
           parsed("write y -> 1\nwrite y -> 2\nwrite y", "read w -> 1 2\nwrite x\nwrite z", "write x"))
# The blind number is less than the seeing number, and this is less than the revealed number.
STEPWISE = ([(2, Layout(FOUR, 3, [["w", "y"], ["x", "z"]])), (3, Layout(FOUR, 3, [["w", "x", "y"], ["z"]])),
             (1, Layout(FOUR, 3, [["w", "x", "z"], ["y"]]))],
            parsed("write y -> 1\nwrite w -> end", "read x -> 0 1 end\nwrite y -> end"))
TWO = [(1, TOGETHER), (3, APART)]
THREE = [(2, XY), (3, YZ), (5, XZ)]

# (pairs, threads), each with something of its own.
BY_HAND = [
    EXAMPLE,
    (TWO, parsed("write x -> 1\nwrite x", "write y")),
    (TWO, parsed("read x -> 1\nread y")),
    (TWO, parsed("read x")),
    (TWO, parsed("read x -> 0", "read y -> 0 end")),
    (TWO, parsed("write x -> 0", "write y -> 0 end")),
    (TWO[:1], parsed("write x -> 1\nwrite x", "write y")),
    (TWO[1:], parsed("write x -> 0", "write y -> 0")),
    # Two layouts that cost the same: by another room, or by cells that no thread uses.
    ([(1, TOGETHER), (1, WIDE)], parsed("read x -> 1\nwrite y", "write x")),
    ([(1, XY), (2, OWN)], parsed("read x -> 0 1\nwrite z", "write x")),
    ([(1000, TOGETHER), (1, WIDE), (7, APART)], parsed("read x -> 1\nread y -> 0", "read y")),
    (THREE, parsed("read x -> 1\nread y -> 2\nread z")),
    (THREE, parsed("write x -> 1\nread y -> 2\nwrite z", "write y -> 1\nwrite x")),
    (THREE, parsed("read x -> 1 2\nread y\nread z", "read z -> 0 end")),
    (THREE, parsed("write x -> 1\nwrite y", "write z -> 0 end")),
    ([(1, OWN), (1, ONE)], parsed("read x -> 1 end\nread y -> 0", "read z -> 1\nread x -> 2\nwrite y")),
    ([(1, XY), (1, YZ)], parsed("write y -> 1\nwrite y -> 2\nwrite y", "write x", "write z")),
    # There is no greatest number, but from where the first target leads there is one.
    (TWO, parsed("read x -> 1 2\nread y\nwrite x -> 2", "write y -> 0")),
    STEPWISE,
]

# (pairs, threads, number of situations) with just 200 joint states; the same with just 201.
TWO_HUNDRED_JOINT = [
    ([(5, ONE)], parsed("read x -> 0 1 2\nwrite z -> 2\nwrite z -> end", "write y -> 0 end",
                        "read x -> 0 2 3\nread x -> 2\nread y -> 0 end\nwrite y -> 2 3 end"), 200),
    ([(1000, XY), (1000, OWN)],
     parsed("read x -> 0 end", "read y -> 1 3\nread y -> 0 end\nwrite x\nwrite y", "read x -> 0 1 2\nwrite y -> 2\nread z"), 344),
    ([(1000, YZ), (1, XZ), (1, OWN)],
     parsed("read y -> 0 end\nread x -> 0\nwrite z -> 0 2", "write x -> 1\nwrite y -> 1 2\nwrite y -> 0 1",
            "read x -> 0 2\nwrite z\nwrite x -> 1"), 379),
]
TWO_HUNDRED_AND_ONE_JOINT = [
    ([(1000, OWN)], parsed("read x -> 0 1 end\nwrite z -> 1", "write y -> 0 end", "read x -> 0 2 end\nwrite x -> 0 1\nread y -> 1"), 201),
    ([(1000, XZ), (2, ONE)], parsed("write y -> 1 2 end\nwrite y\nread y", "write y\nwrite z -> 0 end",
                                    "write y -> 0 1 2\nwrite x -> 0 end\nwrite y"), 377),
    ([(1, XY), (1, XZ), (2, YZ)], parsed("write y -> 0 end", "write y -> 1 2\nwrite y\nread x\nread x -> 2",
                                         "read y -> 1 2\nwrite x -> end\nread y\nread x -> 0 1 end"), 291),
]

# (pairs, threads, number of joint states) with just 400 situations; the same with 401 and more.
FOUR_HUNDRED = [
    ([(1, ONE), (5, XZ)], parsed("write y -> 0 1 end\nread x -> 1\nwrite z -> 0 2 end",
                                 "write z\nwrite z -> 1\nwrite y -> 0 3\nread z -> 0",
                                 "read z -> 2 3\nwrite y\nread z -> 1\nwrite x"), 160),
    ([(1000, XZ), (1000, YZ), (1000, ONE)],
     parsed("write y -> end\nwrite z -> end", "write z\nread z -> 1\nread z -> 0 1 end\nread x -> end",
            "read z -> 0 1 end\nwrite y -> 1 2\nread x -> 0 2 end"), 126),
    ([(1000, ONE), (1, OWN), (1000, YZ)],
     parsed("write y -> 0 end", "read z -> 0 1 end\nread x -> 0 end", "read z -> 0\nread y -> 3\nread y -> 3\nwrite y -> 1 end"), 104),
]
MORE_THAN_400 = [
    ([(1, XY), (1, XZ)], parsed("write z -> 0 1\nread y", "write x -> 0 end", "read z -> 0 1\nwrite x"), 145),
    ([(1, OWN), (1, XY), (1, YZ)], parsed("write x -> 2\nread y -> 1 2 end\nwrite x -> 0 end",
                                          "read y -> 0 2\nwrite x -> 1 end\nwrite y -> 0 1", "write y\nread x -> 0 1 end"), 149),
    ([(2, YZ), (1000, OWN), (2, XY)], parsed("write y -> 0 end", "read z -> 0 end", "read x -> 0 1 end\nread z -> 0"), 191),
]


def layouts_of(pairs):
    return [layout for _, layout in pairs]


def parts_of(pairs):
    return [part for part, _ in pairs]


def is_small(pairs, threads):
    """True if at most 200 joint states and 400 situations can be reached."""
    try:
        joint = oracle_sides.joint_table(layouts_of(pairs), threads)
        return len(joint) <= 200 and len(oracle_sides.situation_table(layouts_of(pairs), threads)) <= 400
    except AssertionError:
        return False


def random_mixtures(seed, many, most_nodes=3):
    """A list of (pairs, threads) that are small."""
    source = random.Random(seed)
    found = []
    while len(found) < many:
        names = "vwxyz"[:source.randint(2, 4)]
        layouts = all_layouts({name: 1 for name in names}, source.randint(1, 4))
        some = source.sample(layouts, min(len(layouts), source.choice([1, 2, 2, 2, 3, 3])))
        pairs = [(source.choice([1, 1, 2, 3, 10, 999, 1000]), layout) for layout in some]
        threads = [random_program(source, names, most_nodes) for _ in range(source.randint(1, 3))]
        if is_small(pairs, threads):
            found.append((pairs, threads))
    return found


def mixed(cases):
    """A list of (Mixture, pairs, threads)."""
    return [(Mixture(case[0]), case[0], case[1]) for case in cases]
