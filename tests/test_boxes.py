import itertools
import math
import random
import unittest

from letparts.boxes import apart_counts, box_counts, great_count, length_counts, square_counts
from letparts.counts import count_all, counts
from letparts.errors import InvalidNumber, InvalidSizes, TooMany
from letparts.rows import square
from letparts.rules import Caps
from tests.helpers import NOT_INTEGERS, OTHER_KINDS, Case, given, index, listed_rows

NOT_NUMBERS = NOT_INTEGERS + (-1, 401, 600, 10 ** 99)


def slow_great(sizes, number):
    """How many rows of a number have these sizes alone, size by size."""
    found = [1] + [0] * number
    for size in sizes:
        for n in range(size, number + 1):
            found[n] += found[n - size]
    return found[number]


class Boxes(Case):
    def test_against_listing(self):
        for length, greatest in itertools.product(range(5), repeat=2):
            expected = tuple(sum(len(row) <= length for row in listed_rows(n, min(n, greatest)))
                             for n in range(length * greatest + 1))
            self.same(expected, box_counts, length=length, greatest=greatest)

    def test_turned_and_taken_away(self):
        for length, greatest in ((20, 20), (20, 19), (19, 20), (20, 7), (13, 16), (1, 20), (20, 1)):
            found = box_counts(length, greatest)
            self.assertEqual(len(found), length * greatest + 1)
            self.assertEqual(sum(found), math.comb(length + greatest, length))
            self.assertEqual(found, box_counts(greatest, length))
            self.assertEqual(found, found[::-1])
            few = min(length, greatest) + 1
            self.assertEqual(found[:few], tuple(count_all(n) for n in range(few)))

    def test_sides_of_nought(self):
        for side in range(21):
            self.same((1,), box_counts, length=0, greatest=side)
            self.same((1,), box_counts, length=side, greatest=0)
            self.same((1,) * (side + 1), box_counts, length=1, greatest=side)

    def test_wrong(self):
        faults = given(InvalidNumber, NOT_INTEGERS + (-1, 21, 400, 10 ** 99))
        self.fails_in_order(box_counts, ("length", 3, faults), ("greatest", 3, faults))


class Lengths(Case):
    def test_against_listing(self):
        for number in range(18):
            rows = listed_rows(number)
            self.same(tuple(sum(len(row) == k for row in rows) for k in range(number + 1)), length_counts,
                      number=number)
            self.assertEqual(length_counts(number), tuple(sum((row or (0,))[0] == k for row in rows)
                                                          for k in range(number + 1)))

    def test_great_numbers(self):
        for number in (24, 60, 200, 399, 400):
            found = length_counts(number)
            self.assertEqual(len(found), number + 1)
            self.assertEqual(sum(found), count_all(number))
            self.assertEqual(found[:3], (0, 1, number // 2))
            self.assertEqual(found[-3:], (2, 1, 1))
        self.same((1,), length_counts, number=0)
        self.same((0, 1), length_counts, number=1)

    def test_wrong(self):
        self.fails_in_order(length_counts, ("number", 3, given(InvalidNumber, NOT_NUMBERS)))


class Squares(Case):
    def test_against_listing(self):
        for number in range(20):
            squares = [square(row) for row in listed_rows(number)]
            self.same(tuple(squares.count(k) for k in range(max(squares) + 1)), square_counts, number=number)

    def test_great_numbers(self):
        for number, length in ((24, 5), (25, 6), (99, 10), (100, 11), (399, 20), (400, 21)):
            found = square_counts(number)
            self.assertEqual(len(found), length)
            self.assertEqual(sum(found), count_all(number))
            self.assertEqual(found[:2], (0, number))
        self.assertEqual(square_counts(400)[20], 1)
        self.same((1,), square_counts, number=0)
        self.same((0, 1), square_counts, number=1)

    def test_wrong(self):
        self.fails_in_order(square_counts, ("number", 3, given(InvalidNumber, NOT_NUMBERS)))


class Apart(Case):
    def test_against_listing(self):
        for gap, least in itertools.product(range(10), range(1, 10)):
            expected = tuple(
                sum(all(row[at] - row[at + 1] >= gap for at in range(len(row) - 1)) and (row or (9,))[-1] >= least
                    for row in listed_rows(n)) for n in range(15))
            self.same(expected, apart_counts, number=14, gap=gap, least=least)

    def test_alike_with_rules(self):
        for gap, least, text in ((0, 1, "|*"), (1, 1, "|1"), (0, 2, "0|*"), (1, 3, "00|1"), (0, 9, "00000000|*"),
                                 (1, 1, "|*0"), (2, 1, "|*00*0"), (2, 2, "|0**00")):
            self.same(counts(Caps.read(text), 400), apart_counts, number=400, gap=gap, least=least)

    def test_edges(self):
        for gap, least in ((0, 1), (9, 9), (9, 1), (0, 9)):
            self.same((1,), apart_counts, number=0, gap=gap, least=least)
            self.assertEqual([len(apart_counts(number, gap, least)) for number in (1, 24, 399, 400)],
                             [2, 25, 400, 401])
        self.assertEqual(apart_counts(30, 9, 9)[8:12] + apart_counts(30, 9, 9)[26:], (0, 1, 1, 1, 1, 2, 2, 3, 3))

    def test_wrong(self):
        self.fails_in_order(
            apart_counts, ("number", 9, given(InvalidNumber, NOT_NUMBERS)),
            ("gap", 2, given(InvalidNumber, NOT_INTEGERS + (-1, 10, 400, 10 ** 99))),
            ("least", 1, given(InvalidNumber, NOT_INTEGERS + (-1, 0, 10, 400, 10 ** 99))))


class Great(Case):
    def test_size_by_size(self):
        lots = random.Random(41)
        for _ in range(40):
            sizes = tuple(sorted(lots.sample((1, 2, 3, 4, 5, 6, 7, 8, 9, 10, 12, 14, 15, 18, 20, 21, 24, 28, 30),
                                             lots.randint(1, 6))))
            if math.lcm(*sizes) > 2520:
                continue
            for number in (0, 1, 29, 60, 1000, 20000 + lots.randrange(3000)):
                self.same(slow_great(sizes, number), great_count, sizes=sizes, number=number)

    def test_each_size_alone(self):
        for size in range(1, 31):
            for number in (0, 1, 29, 30, 2520, 10 ** 30 - 1, 10 ** 30):
                self.same(int(number % size == 0), great_count, sizes=(size,), number=number)

    def test_great_numbers(self):
        most = 10 ** 30
        self.same(most // 2 + 1, great_count, sizes=(1, 2), number=most)
        self.same((most - 1) // 2 + 1, great_count, sizes=(1, 2), number=most - 1)
        self.same(((most + 3) ** 2 + 6) // 12, great_count, sizes=(1, 2, 3), number=most)
        self.same(most // 30 + 1, great_count, sizes=(1, 30), number=most)
        self.same(121, great_count, sizes=(1, 5, 10), number=100)
        self.same(0, great_count, sizes=(2, 30), number=most - 1)
        # One part less of the size 9 leaves the rows without it.
        for number in (most, most - 1, 10 ** 29 + 7):
            less = great_count((5, 7, 8), number)
            self.assertEqual(great_count((5, 7, 8, 9), number) - great_count((5, 7, 8, 9), number - 9), less)
        more = (1, 2, 3, 4, 5, 6)
        self.assertEqual(great_count(more, most) - great_count(more, most - 6), great_count(more[:5], most))

    def test_bounds_of_the_multiple(self):
        for sizes in ((5, 7, 8, 9), (4, 7, 10, 18, 24), (1, 5, 7, 8, 9, 30)):
            self.assertEqual(math.lcm(*sizes), 2520)
            for number in (0, 1, 2519, 2520, 2521, 15119, 15120, 15121):
                self.same(slow_great(sizes, number), great_count, sizes=sizes, number=number)
        for sizes in ((9, 11, 26), (7, 19, 20), (11, 13, 18), (23, 29, 30), (19, 23, 29), (19, 23, 25, 27, 28, 29)):
            multiple = math.lcm(*sizes)
            self.assertGreater(multiple, 2520)
            self.fails(TooMany, "given", multiple, great_count, sizes, 5)
            self.fails(TooMany, "given", multiple, great_count, number=0, sizes=sizes)
        least = min(math.lcm(*sizes) for many in (2, 3, 4) for sizes in itertools.combinations(range(1, 31), many)
                    if math.lcm(*sizes) > 2520)
        sizes = next(sizes for sizes in itertools.combinations(range(1, 31), 3) if math.lcm(*sizes) == least)
        self.fails(TooMany, "given", least, great_count, sizes, 10 ** 30)

    def test_wrong(self):
        kinds = [(value, None) for value in OTHER_KINDS + (3, (), "12", [1, 2])]
        kinds += [((value,), 0) for value in NOT_INTEGERS + (0, -1, 31, 10 ** 99)]
        kinds += [((2, value, 1), 1) for value in NOT_INTEGERS + (0, -1, 2, 1, 31)]
        kinds += [((1, 2, 3, 4, 5, 6, 7), 6), ((1, 2, 3, 4, 5, 6, 6), 6), ((1, 2, 3, 4, 5, 5, 7), 5),
                  ((1, 2, 3, 4, 5, 6, 7, 8), 6), ((29, 30, 31), 2), ((23, 29, 29), 2)]
        numbers = NOT_INTEGERS + (-1, 10 ** 30 + 1, 10 ** 99)
        self.fails_in_order(great_count, ("sizes", (1, 2), index(InvalidSizes, *kinds)),
                            ("number", 5, given(InvalidNumber, numbers)))
        self.fails(InvalidNumber, "given", 10 ** 30 + 1, great_count, (23, 29, 30), 10 ** 30 + 1)
        self.fails(InvalidSizes, "index", 3, great_count, (23, 29, 30, 30), True)


if __name__ == "__main__":
    unittest.main()
