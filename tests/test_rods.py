import itertools
import math
import random
import unittest

from letparts.errors import InvalidNumber, InvalidRow, InvalidThreads, NotACore, TooMany
from letparts.rods import (
    beads, both_cores, core, cores, count_both, count_cores, from_threads, is_core, strikes, threads)
from letparts.rows import hooks
from tests.helpers import (
    NOT_INTEGERS, NOT_ROWS, OTHER_KINDS, Case, given, index, listed_rows, random_row, random_unlike, rims_by_hooks)

RODS = range(2, 10)
NOT_RODS = NOT_INTEGERS + (-2, -1, 0, 1, 10, 24, 600, 10 ** 99)
SMALL = [row for number in range(11) for row in listed_rows(number)]
APART = [pair for pair in itertools.permutations(RODS, 2) if math.gcd(*pair) == 1]


def great_rows(seed, many=12):
    """Some rows with great sums, up to 600."""
    lots = random.Random(seed)
    found = [(600,), (1,) * 600, (300, 300), (25,) * 24, (24,) * 25, (599, 1), tuple(range(34, 0, -1))]
    return found + [make(lots, lots.choice((61, 200, 599, 600))) for _ in range(many)
                    for make in (random_row, random_unlike)]


def slow_beads(row, rods):
    """The heights of the beads of each rod, by their words."""
    many = next(m for m in range(0, 700, rods) if m >= len(row))
    places = [part + many - i for i, part in enumerate(row + (0,) * (many - len(row)), start=1)]
    return tuple(tuple(sorted(place // rods for place in places if place % rods == rod)) for rod in range(rods))


def slow_strikes(row, rods):
    """The rows without a rim of so many boxes."""
    return tuple(sorted(lower for hook, lower in rims_by_hooks(row) if hook == rods))


def slow_threads(row, rods):
    """The threads, by their words."""
    return tuple(tuple(height - below for below, height in reversed(list(enumerate(heights))) if height > below)
                 for heights in slow_beads(row, rods))


def some_strikes(row, rods, choose):
    """The core that is left, and after how many strikes, in the order that `choose` tells."""
    many = 0
    below = slow_strikes(row, rods)
    while below:
        row = choose(below)
        many += 1
        below = slow_strikes(row, rods)
    return row, many


def count_cores_by_series(most, rods):
    """How many rows of 0, 1, .. are cores: the product of (1 - q ** (T * m)) ** T over 1 - q ** m."""
    found = [1] + [0] * most
    for m in range(1, most + 1):
        for n in range(m, most + 1):
            found[n] += found[n - m]
        for _ in range(rods if rods * m <= most else 0):
            for n in range(most, rods * m - 1, -1):
                found[n] -= found[n - rods * m]
    return found


class Rods(Case):
    def test_beads(self):
        for rods in RODS:
            for row in SMALL:
                self.same(slow_beads(row, rods), beads, row=row, rods=rods)
            for row in great_rows(80):
                self.assertEqual(beads(row, rods), slow_beads(row, rods))
            self.same(((),) * rods, beads, row=(), rods=rods)
            self.same(((1,),) + ((0,),) * (rods - 1), beads, row=(1,) * rods, rods=rods)
        self.same(((2,), (0,), (1,)), beads, row=(4, 4, 1), rods=3)

    def test_strikes(self):
        for rods in RODS:
            for row in SMALL:
                self.same(slow_strikes(row, rods), strikes, row=row, rods=rods)
            for row in great_rows(81, 4):
                self.assertEqual(strikes(row, rods), slow_strikes(row, rods))
        self.same(((3, 2, 1), (4, 1, 1)), strikes, row=(4, 4, 1), rods=3)
        self.same(((591,),), strikes, row=(600,), rods=9)
        self.same(((1,) * 598,), strikes, row=(1,) * 600, rods=2)

    def test_core_in_whatever_order(self):
        for rods in (2, 3, 4, 5, 9):
            ends = {}
            for row in SMALL:
                below = slow_strikes(row, rods)
                ends[row] = {end for lower in below for end in ends[lower]} or {(row, 0)}
                ends[row] = {(end, many + 1 if below else 0) for end, many in ends[row]}
                self.assertEqual(len(ends[row]), 1)
                (end, many), = ends[row]
                self.same(end, core, row=row, rods=rods)
                self.same(end == row, is_core, row=row, rods=rods)
                self.assertEqual(many, sum(map(sum, threads(row, rods))))

    def test_great_cores_in_some_orders(self):
        lots = random.Random(82)
        for rods in RODS:
            for number in (30, 60):
                row = random_row(lots, number)
                for choose in (min, max, lots.choice):
                    end, many = some_strikes(row, rods, choose)
                    self.assertEqual((core(row, rods), is_core(end, rods)), (end, True))
                    self.assertEqual(many, sum(map(sum, threads(row, rods))))
            for row in great_rows(83, 4):
                end = core(row, rods)
                self.assertEqual((core(end, rods), strikes(end, rods), threads(end, rods)), (end, (), ((),) * rods))

    def test_threads(self):
        for rods in RODS:
            for row in SMALL + great_rows(84):
                found = threads(row, rods)
                self.assertEqual(found, slow_threads(row, rods))
                boxes = sum(map(sum, found))
                self.assertEqual(sum(row), sum(core(row, rods)) + rods * boxes)
                self.assertEqual(boxes, sum(hook % rods == 0 for hook in hooks(row)))
                self.assertEqual(from_threads(rods, core(row, rods), found), row)
            self.same(((),) * rods, threads, row=(), rods=rods)
        self.same(((2,), (), (1,)), threads, row=(4, 4, 1), rods=3)

    def test_cores_and_threads_hang_on_no_noughts(self):
        # With T noughts more each rod has one bead more on the ground.
        for rods in (2, 3, 5):
            for row in SMALL:
                many = sum(map(len, beads(row, rods))) + rods
                places = [part + many - i for i, part in enumerate(row + (0,) * (many - len(row)), start=1)]
                for rod, heights in enumerate(beads(row, rods)):
                    more = sorted(place // rods for place in places if place % rods == rod)
                    self.assertEqual(more, [0] + [height + 1 for height in heights])


class FromThreads(Case):
    def test_each_core_and_threads_have_their_row(self):
        for rods, most in ((2, 9), (3, 10), (4, 10), (9, 11)):
            for number in range(most):
                found = []
                for boxes in range(number // rods + 1):
                    ends = [row for row in listed_rows(number - rods * boxes) if not slow_strikes(row, rods)]
                    for split in itertools.product(range(boxes + 1), repeat=rods):
                        if sum(split) == boxes:
                            for told in itertools.product(*[listed_rows(many) for many in split]):
                                for end in ends:
                                    row = from_threads(rods, end, told)
                                    self.assertEqual((core(row, rods), threads(row, rods)), (end, told))
                                    found.append(row)
                self.assertEqual(sorted(found), sorted(listed_rows(number)))

    def test_told_rows(self):
        for rods, end, told, row in (
                (3, (3, 1), ((), (1,), ()), (3, 1, 1, 1, 1)), (3, (), ((2,), (), (1,)), (4, 4, 1)),
                (2, (), ((), ()), ()), (2, (), ((300,), ()), (599, 1)), (2, (), ((), (300,)), (600,)),
                (2, (), ((1,) * 300, ()), (1,) * 600), (2, (), ((), (1,) * 300), (2,) + (1,) * 598),
                (9, (6,), ((),) * 9, (6,)), (9, (6,), ((),) * 5 + ((66,),) + ((),) * 3, (600,)),
                (9, (6,), ((66,),) + ((),) * 8, (586, 7) + (1,) * 7)):
            self.same(row, from_threads, rods=rods, core=end, threads=told)
            self.assertEqual((core(row, rods), threads(row, rods)), (end, told))

    def test_wrong(self):
        kinds = [(value, None) for value in OTHER_KINDS + (3, "11", [(), (), ()], {(): 1})]
        kinds += [((), 0), (((),), 1), (((), ()), 2), (((), (), (), ()), 3), (((2,), (1,), (), 7), 3)]
        kinds += [((value, (), ()), 0) for value in NOT_ROWS] + [(((1,), (), value), 2) for value in NOT_ROWS]
        kinds += [((value,), 0) for value in NOT_ROWS] + [(((), value, value, value), 1) for value in NOT_ROWS[:9]]
        rods = ("rods", 3, given(InvalidNumber, NOT_RODS))
        for end in ((3, 1), (3,)):
            self.fails_in_order(from_threads, rods, ("core", end, given(InvalidRow, NOT_ROWS)),
                                ("threads", ((), (1,), ()), index(InvalidThreads, *kinds)))
        self.fails(InvalidThreads, "index", 8, from_threads, 9, (), ((),) * 8)
        self.fails(InvalidThreads, "index", 9, from_threads, 9, (), ((),) * 10)

    def test_last_errors(self):
        for end, rods in (((3,), 3), ((4, 4, 1), 3), ((2,), 2), ((600,), 9), ((9,), 9), ((1,) * 600, 2)):
            for told in (((),) * rods, ((600,),) * rods):
                self.fails(NotACore, "given", end, from_threads, rods, end, told)
                self.fails(NotACore, "given", end, from_threads, threads=told, core=end, rods=rods)
        for rods, end, told, total in (
                (2, (1,), ((), (300,)), 601), (3, (2,), ((100, 99), (), (1,)), 602),
                (9, (6, 1), ((66,),) + ((),) * 8, 601), (2, (), ((600,), (600,)), 2400),
                (9, (), ((600,),) * 9, 9 * 9 * 600), (2, (2, 1), ((299,), ()), 601)):
            self.fails(TooMany, "given", total, from_threads, rods, end, told)
            self.fails(TooMany, "given", total, from_threads, threads=told, core=end, rods=rods)
        for rods, end, told in ((2, (), ((299,), (1,))), (3, (2, 1, 1), ((), (1,) * 198, ())), (2, (1,), ((299,), ()))):
            row = from_threads(rods, end, told)
            self.assertEqual((sum(row), core(row, rods), threads(row, rods)),
                             (sum(end) + rods * sum(map(sum, told)), end, told))


class Cores(Case):
    def test_against_listing(self):
        for rods in RODS:
            for number in range(15):
                expected = tuple(sorted(row for row in listed_rows(number)
                                        if all(hook % rods for hook, _ in rims_by_hooks(row))))
                self.same(expected, cores, number=number, rods=rods)
                self.same(len(expected), count_cores, number=number, rods=rods)

    def test_counts(self):
        for rods in RODS:
            expected = count_cores_by_series(400, rods)
            self.assertEqual([count_cores(number, rods) for number in range(0, 401, 9)], expected[::9])
            for number in (0, 1, 24, 25, 60, 61, 399, 400):
                self.same(expected[number], count_cores, number=number, rods=rods)
            for number in (23, 24):
                self.assertEqual(len(cores(number, rods)), expected[number])
        triangles = {k * (k + 1) // 2 for k in range(30)}
        self.assertEqual([count_cores(number, 2) for number in range(301)], [int(n in triangles) for n in range(301)])

    def test_wrong(self):
        rods = ("rods", 3, given(InvalidNumber, NOT_RODS))
        for function in (beads, core, is_core, threads, strikes):
            self.fails_in_order(function, ("row", (4, 4, 1), given(InvalidRow, NOT_ROWS)), rods)
        numbers = given(InvalidNumber, NOT_INTEGERS + (-1, 401, 600, 10 ** 99))
        self.fails_in_order(count_cores, ("number", 9, numbers), rods)
        numbers = given(InvalidNumber, NOT_INTEGERS + (-1, 25, 60, 400, 10 ** 99))
        self.fails_in_order(cores, ("number", 9, numbers), rods)


class BothCores(Case):
    def test_against_listing(self):
        rows = [row for number in range(18) for row in sorted(listed_rows(number))]
        kept = {rods: {row for row in rows if all(hook % rods for hook, _ in rims_by_hooks(row))} for rods in RODS}
        for rods, more in APART:
            if count_both(rods, more) <= 500:
                found = both_cores(rods, more)
                self.assertEqual([row for row in found if sum(row) < 18],
                                 [row for row in rows if row in kept[rods] and row in kept[more]])

    def test_told_numbers_and_greatest_sums(self):
        for rods, more in APART:
            many = math.factorial(rods + more - 1) // (math.factorial(rods) * math.factorial(more))
            self.same(many, count_both, rods=rods, more=more)
            if many <= 500:
                found = both_cores(rods, more)
                self.assertEqual(list(found), sorted(set(found), key=lambda row: (sum(row), row)))
                self.assertEqual(len(found), many)
                self.assertTrue(all(is_core(row, rods) and is_core(row, more) for row in found))
                self.assertEqual(sum(found[-1]), (rods * rods - 1) * (more * more - 1) // 24)
                self.same(found, both_cores, rods=rods, more=more)
                self.assertEqual(found, both_cores(more, rods))

    def test_too_many(self):
        for rods, more in itertools.product(RODS, repeat=2):
            divisor = math.gcd(rods, more)
            if divisor > 1:
                for function in (both_cores, count_both):
                    self.fails(TooMany, "given", divisor, function, rods, more)
                    self.fails(TooMany, "given", divisor, function, more=more, rods=rods)
        for rods, more, many in ((7, 9, 715), (8, 9, 1430)):
            for one, two in ((rods, more), (more, rods)):
                self.fails(TooMany, "given", many, both_cores, one, two)
                self.fails(TooMany, "given", many, both_cores, more=two, rods=one)
                self.same(many, count_both, rods=one, more=two)
        self.assertEqual(len(both_cores(7, 8)), 429)

    def test_wrong(self):
        faults = given(InvalidNumber, NOT_RODS)
        for function in (both_cores, count_both):
            for right in (3, 2):
                self.fails_in_order(function, ("rods", right, faults), ("more", 4, faults))


if __name__ == "__main__":
    unittest.main()
