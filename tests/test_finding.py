"""Finding the layout: points 25, 27 and 28, and the interface of sharedlines/finding.py."""

import time
import unittest

from sharedlines.compare import parting_run
from sharedlines.errors import TooManyStates, UnknownCell
from sharedlines.finding import are_finding_numbers, finding, finding_numbers
from sharedlines.hidden import Mixture
from tests import oracle_sides
from tests.cases import APART, MANY, ONE, OWN, TOGETHER, XY, YZ, parsed
from tests.mixtures import (
    BY_HAND, EXAMPLE, FOUR_HUNDRED, MORE_THAN_400, THREE, TWO, TWO_HUNDRED_AND_ONE_JOINT, TWO_HUNDRED_JOINT, WIDE,
    XZ, layouts_of, mixed, random_mixtures)
from tests.values import any_values

CASES = mixed(BY_HAND + random_mixtures(111, 120) + random_mixtures(112, 30, 4))
LARGE = mixed(TWO_HUNDRED_JOINT + FOUR_HUNDRED)
READER = parsed("read x -> 1\nread y")
PAIR = Mixture(TWO)

# Pairs, threads, and the finding number of the beginning.
NUMBERS = [
    (*EXAMPLE, 3),
    (TWO, READER, 2),
    (TWO[:1], READER, 0),
    (TWO[1:], parsed("write x -> 0", "write y -> 0"), 0),
    (TWO, parsed("read x"), None),
    (TWO, parsed("read x -> 0", "write x -> 0"), None),
    # The first step goes wherever it is told to.
    (TWO, parsed("read x -> 0 1 end\nread y"), 2),
    (TWO, parsed("read x -> 1\nread x -> 2\nread y"), 3),
    (TWO, parsed("write x -> 1\nwrite x", "write y"), 3),
    # Two layouts that cost the same, alone and beside a third one.
    ([(1, TOGETHER), (1, WIDE)], READER, None),
    ([(1, TOGETHER), (1, WIDE), (1, APART)], READER, None),
    # Of three, one can be found by the second step, but not each of the other two.
    (THREE, parsed("read x -> 1\nread y -> 2\nread z"), None),
    (THREE, parsed("read x -> 1 2\nread y\nread z"), None),
    (THREE, parsed("read x -> 1 2\nread y -> 2\nread z -> 1"), None),
    # Here one is found by the second step, and the other two by the third.
    ([(1, XY), (1, YZ), (1, OWN)], parsed("read x -> 1\nread y -> 2\nread z"), 3),
    ([(1, XY), (1, YZ), (1, OWN)], parsed("read x -> 1\nread y"), None),
]


class Numbers(unittest.TestCase):
    def test_by_hand(self):
        for pairs, threads, expected in NUMBERS:
            with self.subTest([str(program) for program in threads], many=len(pairs)):
                found = finding(Mixture(pairs), threads)
                self.assertEqual(found, expected)
                self.assertIn(type(found), (int, type(None)))

    def test_all_situations_of_an_example(self):
        free, held = ((), False), ((0,), False)
        first = ((0,), ((free,), (free, free)))
        second = ((1,), ((held,), (held, free)))
        together, apart = ((None,), ((held,), (held, held))), (0, 1)
        self.assertEqual(finding_numbers(PAIR, READER), {
            (first, apart): 2, (second, apart): 1, (together, (0,)): 0, (together, (1,)): 0})

    def test_as_the_point_tells(self):
        numbers = set()
        for mixture, pairs, threads in CASES + LARGE:
            table = oracle_sides.situation_table(layouts_of(pairs), threads)
            expected = oracle_sides.finding_numbers(table)
            found = finding_numbers(mixture, threads)
            self.assertIs(type(found), dict)
            self.assertEqual(found, expected)
            self.assertTrue(all(number is None or type(number) is int for number in found.values()))
            self.assertEqual(finding(mixture, threads), expected[oracle_sides.situation_start(layouts_of(pairs), threads)])
            numbers.add(finding(mixture, threads))
        self.assertGreaterEqual(numbers, {None, 0, 2, 3, 4})

    def test_one_more_than_the_least_number_that_some_step_surely_comes_to(self):
        for mixture, pairs, threads in CASES:
            found = finding_numbers(mixture, threads)
            for situation, row in oracle_sides.situation_table(layouts_of(pairs), threads).items():
                sure = [[found[behind] for behind in seen.values()] for _, _, seen in row]
                sure = [max(numbers) for numbers in sure if None not in numbers]
                if len(situation[1]) == 1:
                    self.assertEqual(found[situation], 0)
                else:
                    self.assertEqual(found[situation], 1 + min(sure) if sure else None)

    def test_layouts_that_cost_the_same(self):
        """Point 28: a mixture of such layouts has no finding number at the beginning."""
        some = 0
        for mixture, pairs, threads in CASES:
            layouts = layouts_of(pairs)
            alike = [1 for place, layout in enumerate(layouts) for other in layouts[:place]
                     if parting_run(layout, other, threads) is None]
            if alike:
                some += 1
                self.assertIsNone(finding(mixture, threads))
            elif len(pairs) == 2:
                # A parting run of two layouts finds one of them.
                self.assertEqual(finding(mixture, threads), len(parting_run(*layouts, threads)))
        self.assertGreater(some, 20)

    def test_parts_do_not_matter(self):
        for _, pairs, threads in CASES[:40]:
            alike = Mixture([(1, layout) for layout in layouts_of(pairs)])
            self.assertEqual(finding_numbers(alike, threads), finding_numbers(Mixture(pairs), threads))


class AreFindingNumbers(unittest.TestCase):
    def test_they_are(self):
        for mixture, _, threads in CASES:
            numbers = finding_numbers(mixture, threads)
            self.assertIs(are_finding_numbers(mixture, threads, numbers), True)
            self.assertIs(are_finding_numbers(mixture, threads, dict(reversed(list(numbers.items())))), True)

    def test_other_numbers(self):
        for threads in (READER, parsed("read x -> 1 2\nread y\nread x")):
            numbers = finding_numbers(PAIR, threads)
            for situation, number in numbers.items():
                values = [None, 0, 1, 2, 3, -1, True, False, "0", "", (0,), [0], {}, [], (), 0.0, 1.0, 10 ** 5000, (0, 1)]
                for value in values:
                    same = value is None and number is None or type(value) is int and value == number
                    self.assertIs(are_finding_numbers(PAIR, threads, {**numbers, situation: value}), same, value)

    def test_keys(self):
        numbers = finding_numbers(PAIR, READER)
        for key in numbers:
            fewer = {other: numbers[other] for other in numbers if other != key}
            self.assertIs(are_finding_numbers(PAIR, READER, fewer), False)
            for other in (None, 0, "x", (), key[0], (key, 0), (key[0], (0, 1, 2)), (key[0], (7,))):
                self.assertIs(are_finding_numbers(PAIR, READER, {**fewer, other: numbers[key]}), False)
                self.assertIs(are_finding_numbers(PAIR, READER, {**numbers, other: 0}), False)
        equal = {(joint, tuple(bool(place) for place in possible)): number for (joint, possible), number in numbers.items()}
        self.assertIs(are_finding_numbers(PAIR, READER, equal), True)

    def test_exchanged(self):
        numbers = finding_numbers(PAIR, READER)
        keys = list(numbers)
        for one in keys:
            for other in keys:
                changed = {**numbers, one: numbers[other], other: numbers[one]}
                self.assertIs(are_finding_numbers(PAIR, READER, changed), numbers[one] == numbers[other])

    def test_other_values(self):
        numbers = finding_numbers(PAIR, READER)
        for value in [*any_values(), list(numbers.items()), list(numbers), tuple(numbers.items()), [numbers], PAIR]:
            self.assertIs(are_finding_numbers(PAIR, READER, value), False)


class ManyStates(unittest.TestCase):
    def calls(self, mixture, threads):
        return [(finding, (mixture, threads)), (finding_numbers, (mixture, threads))] + [
            (are_finding_numbers, (mixture, threads, value)) for value in any_values()]

    def test_just_as_many_as_are_looked_at_within_a_second_or_so(self):
        for mixture, _, threads in LARGE:
            begin = time.process_time()
            self.assertIs(are_finding_numbers(mixture, threads, finding_numbers(mixture, threads)), True)
            self.assertLess(time.process_time() - begin, 2)

    def test_more_states_or_situations(self):
        for pairs, threads, _ in TWO_HUNDRED_AND_ONE_JOINT + MORE_THAN_400 + [([(1, ONE), (1, OWN)], MANY, 0),
                                                                               ([(1, ONE)], MANY, 0)]:
            for function, given in self.calls(Mixture(pairs), threads):
                self.assertRaises(TooManyStates, function, *given)

    def test_unknown_cells_come_first(self):
        for pairs in (TWO, TWO[:1], [(1, TOGETHER), (1, APART), (1, WIDE)]):
            for threads, cell in (([*MANY[:2], *parsed("read q")], "q"), (parsed("read x -> 1\nread r", "read q"), "r")):
                for function, given in self.calls(Mixture(pairs), threads):
                    with self.assertRaises(UnknownCell) as caught:
                        function(*given)
                    self.assertEqual(caught.exception.cell, cell)

    def test_joint_states_have_a_limit_of_their_own(self):
        pairs, threads, situations = TWO_HUNDRED_AND_ONE_JOINT[0]
        self.assertEqual(situations, 201)
        self.assertRaises(TooManyStates, finding, Mixture(pairs), threads)
        self.assertEqual(finding(Mixture([(1, XY), (1, YZ), (1, XZ)]), parsed("read x")), None)


if __name__ == "__main__":
    unittest.main()
