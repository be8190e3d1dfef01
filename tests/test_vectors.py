import itertools
import random
import unittest

from letparts.errors import InvalidNumber, InvalidRow, InvalidVector, NotACore, TooMany
from letparts.rods import cores, is_core, strikes
from letparts.vectors import from_vector, raises, rod_sign, vector
from tests.helpers import (
    NOT_INTEGERS, NOT_ROWS, OTHER_KINDS, Case, given, index, listed_rows, random_row, random_unlike, rims_by_hooks)

RODS = range(2, 10)
NOT_RODS = NOT_INTEGERS + (-2, -1, 0, 1, 10, 24, 600, 10 ** 99)
SMALL = [row for number in range(11) for row in listed_rows(number)]


def told_sum(told):
    """The sum of the core with this vector, by the words of its sum."""
    twice = len(told) * sum(own * own for own in told) + 2 * sum(rod * own for rod, own in enumerate(told))
    return twice // 2


def slow_vector(row, rods):
    """How many beads are on each rod, less as many as on each of all if they had equally many."""
    many = -(-len(row) // rods) * rods
    places = [part + many - i for i, part in enumerate(row + (0,) * (many - len(row)), start=1)]
    return tuple(sum(place % rods == rod for place in places) - many // rods for rod in range(rods))


def slow_sign(row, rods, more, choose):
    """The sign of all jumps down to the core, with so many lots of noughts more, in the order that `choose` tells."""
    many = (-(-len(row) // rods) + more) * rods
    places = {part + many - i for i, part in enumerate(row + (0,) * (many - len(row)), start=1)}
    sign = 1
    while True:
        free = sorted(place for place in places if place >= rods and place - rods not in places)
        if not free:
            return sign
        place = choose(free)
        sign *= (-1) ** sum(place - rods < other < place for other in places)
        places = places - {place} | {place - rods}


def vectors_with_sums(rods, most, low, high):
    """Some vectors of so many integers whose cores have sums from the one bound to the other one, by these sums."""
    found = {}
    for told in itertools.product(range(-most, most + 1), repeat=rods - 1):
        whole = told + (-sum(told),)
        if low <= told_sum(whole) <= high:
            found.setdefault(told_sum(whole), []).append(whole)
    return found


class Vectors(Case):
    def test_all_cores_of_a_number(self):
        for rods in RODS:
            for number in range(25 if rods < 4 else 15):
                found = []
                for row in cores(number, rods):
                    told = slow_vector(row, rods)
                    self.same(told, vector, row=row, rods=rods)
                    self.same(row, from_vector, vector=told)
                    self.assertEqual((sum(told), told_sum(told)), (0, number))
                    found.append(told)
                self.assertEqual(len(set(found)), len(found))
            self.same((0,) * rods, vector, row=(), rods=rods)
            self.same((), from_vector, vector=(0,) * rods)

    def test_each_vector_has_its_core(self):
        for rods, most in ((2, 17), (3, 4), (4, 2), (5, 1), (9, 1)):
            for told in itertools.product(range(-most, most + 1), repeat=rods - 1):
                whole = told + (-sum(told),)
                if abs(whole[-1]) <= most:
                    row = from_vector(whole)
                    self.assertEqual(sum(row), told_sum(whole))
                    self.assertTrue(is_core(row, rods))
                    self.assertEqual(vector(row, rods), whole)

    def test_bounds_of_the_sum(self):
        for rods, most in ((2, 20), (3, 21), (4, 19)):
            found = vectors_with_sums(rods, most, 590, 610)
            for total, lot in found.items():
                for told in lot:
                    if total > 600:
                        self.fails(TooMany, "given", total, from_vector, told)
                        self.fails(TooMany, "given", total, from_vector, vector=told)
                    else:
                        row = from_vector(told)
                        self.assertEqual((sum(row), vector(row, rods)), (total, told))
        self.assertTrue({600, 601} <= set(found))
        great = 10 ** 50
        for told in ((10 ** 99, -(10 ** 99)), (-great, 0, 0, 0, 0, 0, 0, 0, great), (18, -18), (0, 9, -9, 0, 9, -9)):
            self.fails(TooMany, "given", told_sum(told), from_vector, told)
        self.same(tuple(range(34, 0, -1)), from_vector, vector=(-17, 17))
        self.same(tuple(range(33, 0, -1)), from_vector, vector=(17, -17))

    def test_not_a_core(self):
        for rods, row in ((2, (2,)), (2, (600,)), (3, (4, 4, 1)), (9, (9,)), (9, (1,) * 600), (5, (3, 3, 1))):
            self.assertFalse(is_core(row, rods))
            self.fails(NotACore, "given", row, vector, row, rods)
            self.fails(NotACore, "given", row, vector, rods=rods, row=row)

    def test_wrong(self):
        rows, rods = given(InvalidRow, NOT_ROWS), given(InvalidNumber, NOT_RODS)
        for row in ((3, 1), (3,)):
            self.fails_in_order(vector, ("row", row, rows), ("rods", 3, rods))
        kinds = [(value, None) for value in OTHER_KINDS + (0, 3, "00", [0, 0], {0: 0})]
        kinds += [((), 0), ((0,), 1), ((5,), 1), ((-1,), 1), ((0,) * 10, 9), ((1,) * 11, 9), ((0,) * 9 + (None,), 9)]
        kinds += [((value,), 0) for value in NOT_INTEGERS] + [((1, value), 1) for value in NOT_INTEGERS]
        kinds += [((0,) * 8 + (value,), 8) for value in NOT_INTEGERS]
        kinds += [((3, value, 0, True), 1) for value in NOT_INTEGERS]
        kinds += [((1, 0), None), ((1, 1), None), ((10 ** 99, 0), None), ((1,) * 9, None), ((0,) * 8 + (-1,), None)]
        self.fails_in_order(from_vector, ("vector", (0, 1, -1), index(InvalidVector, *kinds)))


class Raises(Case):
    def test_struck_back(self):
        for rods in RODS:
            for number in range(9):
                above = {row: strikes(row, rods) for row in listed_rows(number + rods)}
                for row in listed_rows(number):
                    expected = tuple(sorted(higher for higher, below in above.items() if row in below))
                    self.same(expected, raises, row=row, rods=rods)
                    self.assertEqual(len(expected), len(strikes(row, rods)) + rods)

    def test_great_rows(self):
        lots = random.Random(85)
        for rods in RODS:
            most = 600 - rods
            for row in (random_row(lots, most), random_unlike(lots, most), (most,), (1,) * most):
                found = raises(row, rods)
                self.assertEqual(list(found), sorted(set(found)))
                self.assertEqual(len(found), len(strikes(row, rods)) + rods)
                for higher in found:
                    self.assertEqual(sum(higher), 600)
                    self.assertIn((rods, row), rims_by_hooks(higher))

    def test_told_rows(self):
        self.same(((2, 1, 1), (2, 2), (4,)), raises, row=(2,), rods=2)
        self.same(((1, 1), (2,)), raises, row=(), rods=2)
        for rods in RODS:
            corners = tuple(sorted((k,) + (1,) * (rods - k) for k in range(1, rods + 1)))
            self.same(corners, raises, row=(), rods=rods)

    def test_sums_above_six_hundred(self):
        for rods in RODS:
            for number in range(601 - rods, 601):
                self.fails(TooMany, "given", number + rods, raises, (number,), rods)
            self.fails(TooMany, "given", 600 + rods, raises, rods=rods, row=(1,) * 600)
            self.fails(TooMany, "given", 601, raises, (300,) + (1,) * (301 - rods), rods)

    def test_wrong(self):
        rows, rods = given(InvalidRow, NOT_ROWS), given(InvalidNumber, NOT_RODS)
        for row in ((3, 1), (600,)):
            self.fails_in_order(raises, ("row", row, rows), ("rods", 3, rods))
            self.fails_in_order(rod_sign, ("row", row, rows), ("rods", 3, rods))


class Signs(Case):
    def test_in_some_orders(self):
        lots = random.Random(86)
        found = set()
        for rods in RODS:
            for row in SMALL:
                signs = {slow_sign(row, rods, more, choose)
                         for more in (0, 1, 2) for choose in (min, max, lots.choice)}
                self.assertEqual(len(signs), 1)
                self.same(min(signs), rod_sign, row=row, rods=rods)
                found |= {(rods, sign) for sign in signs}
        self.assertEqual(found, set(itertools.product(RODS, (1, -1))))

    def test_great_rows(self):
        lots = random.Random(87)
        for rods in RODS:
            for number in (60, 200, 600):
                for row in (random_row(lots, number), random_unlike(lots, number), (number,), (1,) * number):
                    for choose in (min, max):
                        self.assertEqual(rod_sign(row, rods), slow_sign(row, rods, 0, choose))

    def test_told_rows(self):
        for row, rods, sign in (((), 2, 1), ((4, 4, 1), 3, 1), ((1, 1), 2, -1), ((2,), 2, 1), ((600,), 2, 1),
                                ((1,) * 600, 2, 1), ((1,) * 598, 2, -1), ((1, 1, 1), 3, 1), ((2, 1), 3, -1)):
            self.same(sign, rod_sign, row=row, rods=rods)


if __name__ == "__main__":
    unittest.main()
