import random
import unittest

from letparts.errors import InvalidNumber, InvalidRow
from letparts.ranks import by_crank, by_rank, crank, rank
from letparts.rows import turned
from tests.helpers import NOT_INTEGERS, NOT_ROWS, Case, given, listed_rows, random_row

SMALL = [row for number in range(15) for row in listed_rows(number)]


def slow_rank(row):
    """The rank, by its words."""
    return max(row) - len(row) if row else 0


def slow_crank(row):
    """The crank, by its words."""
    if 1 not in row:
        return max(row, default=0)
    ones = row.count(1)
    return sum(part > ones for part in row) - ones


class Ranks(Case):
    def test_rank_and_crank(self):
        lots = random.Random(96)
        for row in SMALL + [random_row(lots, 600) for _ in range(20)]:
            self.same(slow_rank(row), rank, row=row)
            self.same(slow_crank(row), crank, row=row)
            self.assertEqual(rank(turned(row)), -rank(row))

    def test_told_rows(self):
        for row, told_rank, told_crank in (
                ((), 0, 0), ((1,), 0, -1), ((2,), 1, 2), ((1, 1), -1, -2), ((4, 4, 1), 1, 1), ((600,), 599, 600),
                ((1,) * 600, -599, -600), ((3, 3, 1, 1, 1), -2, -3), ((4, 4, 1, 1, 1), -1, -1), ((2, 1), 0, 0),
                ((2, 2, 1), -1, 1), ((5, 3, 2, 1, 1), 0, 0), ((300, 300), 298, 300), ((599, 1), 597, 0)):
            self.same(told_rank, rank, row=row)
            self.same(told_crank, crank, row=row)

    def test_wrong(self):
        for function in (rank, crank):
            self.fails_in_order(function, ("row", (2, 1), given(InvalidRow, NOT_ROWS)))


class Rests(Case):
    def test_against_listing(self):
        for number in range(19):
            rows = listed_rows(number)
            for by in (2, 3, 5, 7, 11, 19, 20):
                for function, told in ((by_rank, slow_rank), (by_crank, slow_crank)):
                    rests = [told(row) - by * (told(row) // by) for row in rows]
                    self.same(tuple(rests.count(rest) for rest in range(by)), function, number=number, by=by)

    def test_even_shares(self):
        for by, leaves, functions in ((5, 4, (by_rank, by_crank)), (7, 5, (by_rank, by_crank)), (11, 6, (by_crank,))):
            for number in range(leaves, 25, by):
                for function in functions:
                    found = function(number, by)
                    self.assertEqual(found, (found[0],) * by)
                    self.assertEqual(sum(found), len(listed_rows(number)))
        self.same((315,) * 5, by_rank, number=24, by=5)
        self.same((70,) * 7, by_crank, number=19, by=7)
        self.same((27,) * 11, by_crank, number=17, by=11)

    def test_edges(self):
        for by in range(2, 21):
            for function in (by_rank, by_crank):
                self.same((1,) + (0,) * (by - 1), function, number=0, by=by)
            self.same((1,) + (0,) * (by - 1), by_rank, number=1, by=by)
            # The only row of 1 has the crank -1.
            self.same((0,) * (by - 1) + (1,), by_crank, number=1, by=by)
            for function in (by_rank, by_crank):
                self.assertEqual([sum(function(number, by)) for number in (23, 24)], [1255, 1575])
        # 2 has the ranks 1 and -1, the cranks 2 and -2.
        self.same((0, 1, 0, 0, 1), by_rank, number=2, by=5)
        self.same((0, 0, 1, 1, 0), by_crank, number=2, by=5)
        self.same((0, 2), by_rank, number=2, by=2)

    def test_wrong(self):
        for function in (by_rank, by_crank):
            self.fails_in_order(
                function, ("number", 9, given(InvalidNumber, NOT_INTEGERS + (-1, 25, 60, 400, 10 ** 99))),
                ("by", 5, given(InvalidNumber, NOT_INTEGERS + (-5, -1, 0, 1, 21, 24, 10 ** 99))))


if __name__ == "__main__":
    unittest.main()
