import random
import unittest

from letparts.errors import InvalidNumber, InvalidRow, NotOdd, NotUnlike
from letparts.exchange import exchanged
from letparts.rules import Caps
from letparts.splitting import fished, merged, runs, split, unfished
from tests.helpers import (
    NOT_INTEGERS, NOT_ROWS, Case, given, listed_rows, odd_rows, random_row, random_unlike, unlike_rows)

BASES = range(2, 10)
NOT_BASES = NOT_INTEGERS + (-2, -1, 0, 1, 10, 24, 600, 10 ** 99)


def slow_fished(row):
    """What an odd row is fished to, by its words, for indexes from 1 on."""
    a = {i: (part - 1) // 2 for i, part in enumerate(row, start=1)}
    found = []
    j = 1
    while j in a and a[j] >= j - 1:
        found.append(a[j] - (j - 1) + sum(1 for i in a if i >= j and a[i] >= j - 1))
        more = a[j] - (j - 1) + sum(1 for i in a if i >= j + 1 and a[i] >= j)
        if more != 0:
            found.append(more)
        j += 1
    return tuple(found)


def slow_runs(row):
    """The runs of an unlike row: cut wherever it does not fall by 1."""
    cuts = [0] + [at for at in range(1, len(row)) if row[at - 1] - row[at] != 1] + [len(row)]
    return tuple(row[one:two] for one, two in zip(cuts, cuts[1:]) if one < two)


def slow_split(row, base, choose):
    """The row split, one part at a time, in the order that `choose` tells."""
    row = list(row)
    while True:
        parts = [part for part in row if part % base == 0]
        if not parts:
            return tuple(sorted(row, reverse=True))
        part = choose(parts)
        row.remove(part)
        row += [part // base] * base


def slow_merged(row, base, choose):
    """The row merged, one lot of like parts at a time, in the order that `choose` tells."""
    row = list(row)
    while True:
        sizes = sorted({part for part in row if row.count(part) >= base})
        if not sizes:
            return tuple(sorted(row, reverse=True))
        size = choose(sizes)
        for _ in range(base):
            row.remove(size)
        row.append(size * base)


class Fished(Case):
    def test_all_odd_rows(self):
        for number in range(24):
            rows = odd_rows(number)
            ends = []
            for row in rows:
                end = slow_fished(row)
                self.same(end, fished, row=row)
                self.same(row, unfished, row=end)
                self.assertEqual(len(set(row)), len(runs(end)))
                ends.append(end)
            self.assertEqual(sorted(ends), sorted(unlike_rows(number)))

    def test_all_unlike_rows(self):
        for number in range(24):
            for row in unlike_rows(number):
                self.assertEqual(fished(unfished(row)), row)
                self.assertEqual(runs(row), slow_runs(row))
            self.assertEqual(sorted(map(unfished, unlike_rows(number))), sorted(odd_rows(number)))

    def test_told_rows(self):
        for row, end in (((), ()), ((1,), (1,)), ((1, 1), (2,)), ((3,), (2, 1)), ((5, 3, 3, 1), (6, 4, 2)),
                         ((599, 1), (301, 299)), ((1,) * 600, (600,)), ((3,) * 200, (201, 200, 199)),
                         ((3, 1), (3, 1)), ((5,), (3, 2))):
            self.same(end, fished, row=row)
            self.same(row, unfished, row=end)

    def test_great_sums(self):
        lots = random.Random(74)
        for number in (300, 599, 600):
            for _ in range(25):
                row = random_unlike(lots, number)
                back = unfished(row)
                self.assertEqual((sum(back), fished(back)), (number, row))
                self.assertEqual(sorted(back, reverse=True), list(back))
                self.assertTrue(all(part % 2 for part in back))
                self.assertEqual(len(set(back)), len(runs(row)))
            for most in (3, 9, 31, 599):
                row = random_row(lots, number, range(1, most + 1, 2))
                end = fished(row)
                self.assertEqual((end, unfished(end)), (slow_fished(row), row))
                self.assertEqual((sum(end), len(set(row))), (number, len(runs(end))))

    def test_runs(self):
        for row, expected in (((), ()), ((600,), ((600,),)), ((2, 1), ((2, 1),)), ((3, 1), ((3,), (1,))),
                              ((7, 6, 3, 1), ((7, 6), (3,), (1,))), ((9, 7, 6, 5, 3, 2), ((9,), (7, 6, 5), (3, 2)))):
            self.same(expected, runs, row=row)
        self.same((tuple(range(34, 0, -1)),), runs, row=tuple(range(34, 0, -1)))

    def test_wrong(self):
        rows = given(InvalidRow, NOT_ROWS)
        even = ((2,), (600,), (3, 2), (4, 3, 1), (2, 2), (2,) + (1,) * 598, (5, 5, 4))
        self.fails_in_order(fished, ("row", (3, 1), rows + given(NotOdd, even)))
        like = ((1, 1), (300, 300), (4, 4, 1), (5, 2, 2), (1,) * 600)
        for function in (unfished, runs):
            self.fails_in_order(function, ("row", (2, 1), rows + given(NotUnlike, like)))


class SplitAndMerged(Case):
    def test_in_any_order(self):
        lots = random.Random(75)
        for base in BASES:
            for number in (0, 1, 2, 4, 8, 9, 12, 16):
                for row in listed_rows(number):
                    self.same(slow_split(row, base, max), split, row=row, base=base)
                    self.same(slow_merged(row, base, min), merged, row=row, base=base)
                    for choose in (min, max, lots.choice):
                        self.assertEqual(slow_split(row, base, choose), split(row, base))
                        self.assertEqual(slow_merged(row, base, choose), merged(row, base))

    def test_one_to_one_and_back(self):
        for base in BASES:
            for number in (0, 1, 3, 8, 9, 10, 18, 21):
                few = [row for row in listed_rows(number) if all(row.count(size) < base for size in row)]
                whole = [row for row in listed_rows(number) if all(part % base for part in row)]
                self.assertEqual(sorted(split(row, base) for row in few), sorted(whole))
                self.assertEqual(sorted(merged(row, base) for row in whole), sorted(few))
                for row in few:
                    self.assertEqual(merged(split(row, base), base), row)
                    self.assertEqual(merged(row, base), row)
                for row in whole:
                    self.assertEqual(split(merged(row, base), base), row)
                    self.assertEqual(split(row, base), row)

    def test_exchanges_lead_the_same_way(self):
        # A cap is at most 6, so there are rules for the bases up to 7.
        for base in range(2, 8):
            few, whole = Caps((), (base - 1,)), Caps((), (None,) * (base - 1) + (0,))
            for row in [row for number in (0, 7, 14, 16) for row in listed_rows(number)]:
                if all(row.count(size) < base for size in row):
                    self.assertEqual(split(row, base), exchanged(row, few, whole))
                if all(part % base for part in row):
                    self.assertEqual(merged(row, base), exchanged(row, whole, few))

    def test_great_sums(self):
        lots = random.Random(76)
        for base in BASES:
            for number in (599, 600):
                for row in [random_row(lots, number), random_unlike(lots, number), (number,), (1,) * number]:
                    self.assertEqual(split(row, base), slow_split(row, base, max))
                    self.assertEqual(merged(row, base), slow_merged(row, base, min))
        self.same((75,) * 8, split, row=(600,), base=2)
        self.same((200,) * 3, split, row=(600,), base=3)
        self.same((600,), split, row=(600,), base=7)
        self.same((512, 64, 16, 8), merged, row=(1,) * 600, base=2)
        self.same((243, 243, 81, 27, 3, 3), merged, row=(1,) * 600, base=3)
        self.same((81,) * 7 + (9,) * 3 + (1,) * 6, merged, row=(1,) * 600, base=9)
        self.same((1,) * 512, split, row=(512,), base=2)
        self.same((1,) * 512, split, row=(512,), base=8)
        self.same((2,) * 256, split, row=(512,), base=4)
        self.same((2,) * 81, split, row=(18,) * 9, base=9)

    def test_empty_row(self):
        for base in BASES:
            self.same((), split, row=(), base=base)
            self.same((), merged, row=(), base=base)

    def test_wrong(self):
        for function in (split, merged):
            self.fails_in_order(function, ("row", (4, 1), given(InvalidRow, NOT_ROWS)),
                                ("base", 2, given(InvalidNumber, NOT_BASES)))


if __name__ == "__main__":
    unittest.main()
