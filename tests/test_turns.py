import random
import unittest

from letparts.counts import count_all
from letparts.errors import InvalidNumber, InvalidRow, NotUnlike
from letparts.turns import even_less_odd, fives, stays, turned_over
from tests.helpers import NOT_INTEGERS, NOT_ROWS, Case, given, random_unlike, unlike_rows

# From 2k - 1 down to k, and from 2k down to k + 1.
STAYING = [()] + [row for k in range(1, 21) for row in (tuple(range(2 * k - 1, k - 1, -1)), tuple(range(2 * k, k, -1)))]
STAYING = [row for row in STAYING if sum(row) <= 600]
NOT_NUMBERS = NOT_INTEGERS + (-1, 401, 600, 10 ** 99)


def slow_turned_over(row):
    """What an unlike row is turned over to, by its words; None if it stays."""
    if not row:
        return None
    parts = list(row)
    s = parts[-1]
    falling = max(many for many in range(1, len(parts) + 1)
                  if parts[:many] == list(range(parts[0], parts[0] - many, -1)))
    if s <= falling:
        if len(parts) == s:
            return None
        parts.pop()
        for at in range(s):
            parts[at] += 1
    else:
        if len(parts) == falling and s == falling + 1:
            return None
        for at in range(falling):
            parts[at] -= 1
        parts.append(falling)
    return tuple(parts)


class TurnedOver(Case):
    def check(self, row):
        end = turned_over(row)
        expected = slow_turned_over(row)
        self.same(row if expected is None else expected, turned_over, row=row)
        self.same(expected is None, stays, row=row)
        self.assertEqual(turned_over(end), row)
        self.assertEqual(sum(end), sum(row))
        self.assertEqual(sorted(set(end), reverse=True), list(end))
        if expected is not None:
            self.assertIn(len(end), (len(row) - 1, len(row) + 1))

    def test_all_unlike_rows(self):
        for number in range(23):
            rows = unlike_rows(number)
            for row in rows:
                self.check(row)
            self.assertEqual(sorted(row for row in rows if stays(row)), [row for row in STAYING if sum(row) == number])

    def test_rows_that_stay(self):
        self.assertEqual(len(STAYING), 1 + 20 + 19)
        for row in STAYING:
            self.same(row, turned_over, row=row)
            self.same(True, stays, row=row)
            # S is L in the first kind, L + 1 in the second one; beside these no row stays.
            for other in (row[:-1], row[1:], tuple(part + 1 for part in row), row + (1,), (600,)):
                unlike = len(set(other)) == len(other) and sum(other) <= 600
                if other and other not in STAYING and unlike:
                    self.check(other)
                    self.same(False, stays, row=other)

    def test_told_rows(self):
        for row, end in (((2,), (2,)), ((3,), (2, 1)), ((1,), (1,)), ((2, 1), (3,)), ((3, 2), (3, 2)), ((4, 3), (4, 3)),
                         ((5, 4), (4, 3, 2)), ((5, 4, 2), (6, 5)), ((4, 2), (3, 2, 1)), ((4, 1), (5,)), ((), ())):
            self.same(end, turned_over, row=row)
            self.same(row, turned_over, row=end)

    def test_great_sums(self):
        lots = random.Random(73)
        self.same((599, 1), turned_over, row=(600,))
        self.same((600,), turned_over, row=(599, 1))
        for number in (400, 599, 600):
            for _ in range(20):
                self.check(random_unlike(lots, number))
        self.check(tuple(range(34, 0, -1)))
        self.check(tuple(range(35, 10, -1)))

    def test_wrong(self):
        like = ((1, 1), (600 // 2,) * 2, (4, 4, 1), (5, 2, 2), (1,) * 600, (7, 7, 6, 5))
        for function in (turned_over, stays):
            self.fails_in_order(function, ("row", (2, 1), given(InvalidRow, NOT_ROWS)))
            self.fails_in_order(function, ("row", (2, 1), given(NotUnlike, like)))


class Fives(Case):
    def test_fives(self):
        every = sorted({k * (3 * k + way) // 2 for k in range(20) for way in (-1, 1)})
        for number in range(401):
            self.assertEqual(fives(number), tuple(five for five in every if five <= number))
        for number in (0, 1, 2, 3, 24, 60, 376, 377, 392, 399, 400):
            self.same(tuple(five for five in every if five <= number), fives, number=number)
        self.same((0, 1, 2, 5, 7, 12), fives, number=12)
        self.same((0, 1, 2, 5, 7), fives, number=11)

    def test_rows_that_stay_have_them_as_sums(self):
        self.assertEqual([sum(row) for row in STAYING if sum(row) <= 400], list(fives(400)))

    def test_even_less_odd(self):
        for number in range(25):
            rows = unlike_rows(number)
            self.same(sum((-1) ** len(row) for row in rows), even_less_odd, number=number)

    def test_even_less_odd_of_great_numbers(self):
        found = [1] + [0] * 400
        for size in range(1, 401):
            for number in range(400, size - 1, -1):
                found[number] -= found[number - size]
        self.assertEqual([even_less_odd(number) for number in range(401)], found)
        self.assertEqual(found[376:378] + found[391:393] + found[399:], [1, 0, 0, 1, 0, 0])
        for number in (0, 399, 400):
            self.same(found[number], even_less_odd, number=number)

    def test_all_rows_by_the_fives_numbers(self):
        for number in range(1, 401, 13):
            total = 0
            for at, five in enumerate(fives(number)):
                k = (at + 1) // 2
                total += 0 if k == 0 else count_all(number - five) * (1 if k % 2 == 1 else -1)
            self.assertEqual(count_all(number), total)

    def test_wrong(self):
        for function in (fives, even_less_odd):
            self.fails_in_order(function, ("number", 12, given(InvalidNumber, NOT_NUMBERS)))


if __name__ == "__main__":
    unittest.main()
