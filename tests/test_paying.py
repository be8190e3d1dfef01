import itertools
import random
import unittest

from letparts.errors import InvalidFactors, InvalidNumber, InvalidRow, NotBalanced, NotPerfect, TooMany
from letparts.paying import (
    balanced_rows, count_complete, factors, fewest_parts, fewest_weights, from_factors, is_balanced, is_complete,
    is_perfect, is_set, perfect_rows, ways_to_pay, ways_to_weigh, weights_factors)
from tests.helpers import NOT_INTEGERS, NOT_ROWS, Case, given, index, listed_rows, random_row, random_unlike

SMALL = [row for number in range(13) for row in listed_rows(number)]


def sizes(row):
    """The pairs of each size and how often it is a part."""
    return [(size, row.count(size)) for size in sorted(set(row))]


def pay(row):
    """How many ways there are to pay each number, by all rows that stand in a row."""
    found = [0] * (sum(row) + 1)
    for times in itertools.product(*[range(many + 1) for _, many in sizes(row)]):
        found[sum(size * many for (size, _), many in zip(sizes(row), times))] += 1
    return tuple(found)


def weigh(row):
    """How many weighings there are of each number, by all weighings."""
    found = [0] * (sum(row) + 1)
    for times in itertools.product(*[range(-many, many + 1) for _, many in sizes(row)]):
        weight = sum(size * many for (size, _), many in zip(sizes(row), times))
        if weight >= 0:
            found[weight] += 1
    return tuple(found)


def tuples(product):
    """All tuples of integers from 2 on with this product."""
    if product == 1:
        return [()]
    return [(first,) + rest for first in range(2, product + 1) if product % first == 0
            for rest in tuples(product // first)]


def row_of(digits, pans):
    """The row that a tuple of integers tells, to pay with (one pan) or to weigh (two pans)."""
    row = ()
    worth = 1
    for digit in digits:
        row = (worth,) * ((digit - 1) // pans) + row
        worth *= digit
    return row


def complete_rows(number, greatest, known):
    """How many complete rows of a number have no part above a greatest one."""
    if number == 0:
        return 1
    if (number, greatest) not in known:
        # The part that is the greatest one is taken away; those behind it must reach it.
        known[number, greatest] = sum(complete_rows(number - part, part, known)
                                      for part in range(1, min(greatest, (number + 1) // 2) + 1))
    return known[number, greatest]


def great_rows(seed):
    lots = random.Random(seed)
    return [make(lots, number) for number in (60, 61, 200, 599, 600) for make in (random_row, random_unlike)
            for _ in range(3)] + [(600,), (1,) * 600, (300, 150, 75, 38, 19, 9, 5, 2, 1, 1)]


class Paying(Case):
    def test_all_rows(self):
        for row in SMALL:
            ways = pay(row)
            self.same(ways, ways_to_pay, row=row)
            self.same(0 not in ways, is_complete, row=row)
            perfect = ways == (1,) * (sum(row) + 1)
            self.same(perfect, is_perfect, row=row)
            if perfect:
                found = factors(row)
                self.same(found, factors, row=row)
                self.assertEqual(row_of(found, 1), row)
                self.assertTrue(all(digit >= 2 for digit in found))
            else:
                self.fails(NotPerfect, "given", row, factors, row)
                self.fails(NotPerfect, "given", row, factors, row=row)

    def test_great_rows(self):
        for row in great_rows(111):
            ways = [1]
            for part in row:
                ways = ways + [0] * part
            for size, many in sizes(row):
                ways = [sum(ways[at - size * times] for times in range(many + 1) if at >= size * times)
                        for at in range(len(ways))]
            found = ways_to_pay(row)
            self.assertEqual(list(found), ways)
            self.assertIs(is_complete(row), 0 not in found)
            self.assertIs(is_perfect(row), found == (1,) * (sum(row) + 1))

    def test_perfect_rows(self):
        for number in range(25):
            self.same(tuple(sorted(row for row in listed_rows(number) if is_perfect(row))), perfect_rows, number=number)
        for number in list(range(25, 62)) + [143, 191, 239, 359, 383, 399, 400]:
            found = perfect_rows(number)
            self.assertEqual(list(found), sorted(row_of(digits, 1) for digits in tuples(number + 1)))
            for row in found:
                self.assertEqual((sum(row), set(ways_to_pay(row))), (number, {1}))

    def test_factors_there_and_back(self):
        for number in list(range(49)) + [59, 60, 95, 119, 359, 399, 599, 600]:
            for digits in tuples(number + 1):
                row = row_of(digits, 1)
                self.assertEqual((from_factors(digits), factors(row)), (row, digits))
        self.same((3, 1, 1), from_factors, factors=(3, 2))
        self.same((2, 2, 1), from_factors, factors=(2, 3))
        self.same((), from_factors, factors=())
        self.same((1,) * 600, from_factors, factors=(601,))
        self.same((300,) + (1,) * 299, from_factors, factors=(300, 2))
        self.same((), factors, row=())
        self.same((601,), factors, row=(1,) * 600)
        self.same(((),), perfect_rows, number=0)
        self.same(((1,),), perfect_rows, number=1)
        self.same(((1,) * 400,), perfect_rows, number=400)

    def test_sums_of_factors(self):
        for digits, total in (((602,), 601), ((1000,), 999), ((301, 2), 601), ((2,) * 10, 1023), ((1000,) * 30, 10 ** 90 - 1)):
            self.fails(TooMany, "given", total, from_factors, digits)
            self.fails(TooMany, "given", total, from_factors, factors=digits)
        self.fails(InvalidFactors, "index", 2, from_factors, (1000, 1000, 1))

    def test_fewest_and_complete(self):
        known = {}
        for number in range(23):
            complete = [row for row in listed_rows(number) if 0 not in pay(row)]
            self.same(min(map(len, complete)), fewest_parts, number=number)
            self.same(len(complete), count_complete, number=number)
        for number in list(range(23, 70)) + [127, 128, 199, 255, 256, 400]:
            self.assertEqual(count_complete(number), complete_rows(number, number, known))
            j = min(j for j in range(12) if 2 ** j > number)
            self.same(j, fewest_parts, number=number)
        self.same(1, count_complete, number=0)
        self.same(0, fewest_parts, number=0)
        self.same(1, fewest_parts, number=1)
        self.same(4, fewest_parts, number=9)


class Weighing(Case):
    def test_all_rows(self):
        for row in SMALL:
            ways = weigh(row)
            self.same(ways, ways_to_weigh, row=row)
            self.same(0 not in ways, is_set, row=row)
            balanced = ways == (1,) * (sum(row) + 1)
            self.same(balanced, is_balanced, row=row)
            if balanced:
                found = weights_factors(row)
                self.same(found, weights_factors, row=row)
                self.assertEqual(row_of(found, 2), row)
                self.assertTrue(all(digit >= 3 and digit % 2 for digit in found))
            else:
                self.fails(NotBalanced, "given", row, weights_factors, row)
                self.fails(NotBalanced, "given", row, weights_factors, row=row)

    def test_great_rows(self):
        for row in great_rows(112) + [(398, 135, 45, 15, 5, 1, 1), (364, 81, 27, 9, 3, 1), (243, 81, 27, 9, 3, 1)]:
            total = sum(row)
            ways = [0] * total + [1] + [0] * total
            for size, many in sizes(row):
                ways = [sum(ways[at + size * times] for times in range(-many, many + 1)
                            if 0 <= at + size * times <= 2 * total) for at in range(2 * total + 1)]
            found = ways_to_weigh(row)
            self.assertEqual(list(found), ways[total:])
            self.assertIs(is_set(row), 0 not in found)
            self.assertIs(is_balanced(row), found == (1,) * (total + 1))

    def test_balanced_rows(self):
        for number in range(23):
            self.same(tuple(sorted(row for row in listed_rows(number) if is_balanced(row))), balanced_rows, number=number)
        for number in list(range(23, 62)) + [157, 172, 220, 247, 364, 382, 399, 400]:
            found = balanced_rows(number)
            self.assertEqual(list(found), sorted(row_of(digits, 2) for digits in tuples(2 * number + 1)))
            for row in found:
                self.assertEqual((sum(row), set(ways_to_weigh(row))), (number, {1}))
                self.assertIn(weights_factors(row), tuples(2 * number + 1))
        self.same(((),), balanced_rows, number=0)
        self.same(((1, 1, 1, 1), (3, 1)), balanced_rows, number=4)
        self.same((), weights_factors, row=())
        self.same((1201,), weights_factors, row=(1,) * 600)
        self.same((3,) * 6, weights_factors, row=(243, 81, 27, 9, 3, 1))

    def test_fewest_weights(self):
        for number in range(19):
            sets = [row for row in listed_rows(number) if 0 not in weigh(row)]
            self.same(min(map(len, sets)), fewest_weights, number=number)
            self.assertEqual([row for row in listed_rows(number) if is_set(row)], sets)
        for number in list(range(19, 61)) + [121, 122, 364, 365, 400]:
            self.same(min(j for j in range(9) if 3 ** j >= 2 * number + 1), fewest_weights, number=number)
        self.same(0, fewest_weights, number=0)
        self.same(4, fewest_weights, number=40)
        self.same(5, fewest_weights, number=41)


class Wrong(Case):
    def test_rows(self):
        for function in (ways_to_pay, is_complete, is_perfect, factors, ways_to_weigh, is_set, is_balanced,
                         weights_factors):
            self.fails_in_order(function, ("row", (2, 1), given(InvalidRow, NOT_ROWS)))

    def test_numbers(self):
        for function in (perfect_rows, fewest_parts, count_complete, balanced_rows, fewest_weights):
            wrong = NOT_INTEGERS + (-1, -400, 401, 600, 10 ** 99)
            self.fails_in_order(function, ("number", 4, given(InvalidNumber, wrong)))

    def test_factors(self):
        kinds = [(value, None) for value in NOT_INTEGERS if not isinstance(value, tuple)] + [(2, None), ([2, 3], None)]
        kinds += [((value,), 0) for value in NOT_INTEGERS + (1, 0, -2, 1001, 10 ** 99)]
        kinds += [((2, value, 0), 1) for value in NOT_INTEGERS + (1, 0, -2, 1001)]
        kinds += [((1000, 1000, 1000, 1001), 3), ((1001, 1), 0)]
        self.fails_in_order(from_factors, ("factors", (3, 2), index(InvalidFactors, *kinds)))


if __name__ == "__main__":
    unittest.main()
