import itertools
import random
import unittest

from letparts.boxes import apart_counts
from letparts.errors import InvalidGaps, InvalidNumber, InvalidRow, NotApart, TooMany
from letparts.gaps import apart_rows, drawn_in, drawn_out, from_gaps, gaps, is_apart
from letparts.listed import let_rows
from letparts.rows import turned
from letparts.rules import Caps
from tests.helpers import NOT_INTEGERS, NOT_ROWS, OTHER_KINDS, Case, given, index, listed_rows, random_row

NOT_GAPS = NOT_INTEGERS + (-1, 10, 24, 10 ** 99)
NOT_LEASTS = NOT_INTEGERS + (-1, 0, 10, 24, 10 ** 99)
MOST = ((600,), (1,) * 600, (300, 300), (599, 1), tuple(range(34, 0, -1)))
BOTH = list(itertools.product(range(10), range(1, 10)))


def slow_apart(row, gap, least):
    """Whether a row is apart, by its words."""
    return all(one >= two + gap for one, two in zip(row, row[1:])) and all(part >= least for part in row)


class Gaps(Case):
    def test_gaps(self):
        for row in [row for number in range(13) for row in listed_rows(number)] + list(MOST):
            columns = turned(row)
            expected = tuple(columns.count(i) for i in range(1, len(row) + 1))
            self.same(expected, gaps, row=row)
            self.same(row, from_gaps, gaps=expected)
            self.assertEqual(len(expected), len(row))
            self.assertTrue(not expected or expected[-1] > 0)

    def test_great_rows(self):
        lots = random.Random(78)
        for number in (200, 599, 600):
            for _ in range(20):
                row = random_row(lots, number)
                self.assertEqual(from_gaps(gaps(row)), row)

    def test_each_tuple_has_its_row(self):
        for length in range(5):
            for steps in itertools.product(range(4), repeat=length):
                if not steps or steps[-1] != 0:
                    row = from_gaps(steps)
                    self.assertEqual(gaps(row), steps)
                    self.assertEqual(sum(row), sum(i * step for i, step in enumerate(steps, start=1)))

    def test_told_rows(self):
        for row, steps in (((), ()), ((1,), (1,)), ((600,), (600,)), ((1,) * 600, (0,) * 599 + (1,)),
                           ((300, 300), (0, 300)), ((4, 4, 1), (0, 3, 1)), ((3, 2, 1), (1, 1, 1))):
            self.same(steps, gaps, row=row)
            self.same(row, from_gaps, gaps=steps)

    def test_wrong(self):
        self.fails_in_order(gaps, ("row", (2, 1), given(InvalidRow, NOT_ROWS)))
        kinds = [(value, None) for value in OTHER_KINDS + (0, 3, "01", [1], [0, 1], {1: 1})]
        kinds += [((value,), 0) for value in NOT_INTEGERS + (-1, 0, -(10 ** 99))]
        kinds += [((1, value), 1) for value in NOT_INTEGERS + (-1, 0)]
        kinds += [((700, value, 0), 1) for value in NOT_INTEGERS + (-1,)]
        kinds += [((0, 0), 1), ((1, 2, 0), 2), ((0, 900, 0), 2), ((0,) * 700, 699), ((0,) * 650 + (-1,), 650)]
        self.fails_in_order(from_gaps, ("gaps", (1,), index(InvalidGaps, *kinds)))

    def test_sums_above_six_hundred(self):
        for steps, total in (((601,), 601), ((1, 300), 601), ((0,) * 600 + (1,), 601), ((10 ** 99,), 10 ** 99),
                             ((1,) * 35, 630), ((0, 10 ** 90), 2 * 10 ** 90), ((5, 298), 601)):
            self.fails(TooMany, "given", total, from_gaps, steps)
            self.fails(TooMany, "given", total, from_gaps, gaps=steps)
        self.same((301, 299), from_gaps, gaps=(2, 299))


class Apart(Case):
    def test_is_apart(self):
        rows = [row for number in range(12) for row in listed_rows(number)]
        for gap, least in BOTH:
            for row in rows[::5]:
                self.assertIs(is_apart(row, gap, least), slow_apart(row, gap, least))
        for row in rows:
            for gap, least in ((0, 1), (1, 1), (2, 1), (2, 2), (1, 3), (9, 9), (0, 9)):
                self.same(slow_apart(row, gap, least), is_apart, row=row, gap=gap, least=least)

    def test_told_rows(self):
        for row, gap, least, expected in (
                ((), 9, 9, True), ((9,), 9, 9, True), ((8,), 9, 9, False), ((8,), 0, 8, True), ((18, 9), 9, 9, True),
                ((17, 9), 9, 9, False), ((19, 10, 1), 9, 1, True), ((19, 10, 1), 9, 2, False), ((1,) * 600, 0, 1, True),
                ((1,) * 600, 1, 1, False), ((600,), 9, 9, True), ((300, 300), 0, 9, True), ((300, 300), 1, 9, False)):
            self.same(expected, is_apart, row=row, gap=gap, least=least)

    def test_apart_rows(self):
        for gap, least in BOTH:
            for number in (0, 1, 8, 9, 10, 13, 19):
                expected = sorted(row for row in listed_rows(number) if slow_apart(row, gap, least))
                self.assertEqual(apart_rows(number, gap, least), tuple(expected))
        for gap, least in ((0, 1), (2, 1), (9, 9), (0, 9), (9, 1)):
            for number in (0, 9, 23, 24):
                expected = tuple(sorted(row for row in listed_rows(number) if slow_apart(row, gap, least)))
                self.same(expected, apart_rows, number=number, gap=gap, least=least)
                self.assertEqual(len(expected), apart_counts(number, gap, least)[number])
        for least, text in ((1, "|*00*0"), (2, "|0**00")):
            for number in range(25):
                self.assertEqual(len(apart_rows(number, 2, least)), len(let_rows(Caps.read(text), number)))

    def test_wrong(self):
        rows = given(InvalidRow, NOT_ROWS)
        steps, leasts = given(InvalidNumber, NOT_GAPS), given(InvalidNumber, NOT_LEASTS)
        self.fails_in_order(is_apart, ("row", (2, 1), rows), ("gap", 1, steps), ("least", 1, leasts))
        self.fails_in_order(apart_rows, ("number", 4, given(InvalidNumber, NOT_INTEGERS + (-1, 25, 60, 400, 10 ** 99))),
                            ("gap", 1, steps), ("least", 1, leasts))
        self.fails_in_order(drawn_in, ("row", (2, 2), rows), ("gap", 1, steps), ("least", 3, leasts))
        lengths = given(InvalidNumber, NOT_INTEGERS + (-1, 601, 10 ** 99))
        self.fails_in_order(drawn_out, ("length", 1, lengths), ("row", (2, 2), rows), ("gap", 1, steps),
                            ("least", 3, leasts))
        self.fails_in_order(drawn_out, ("length", 600, lengths), ("row", (2, 2), rows), ("gap", 1, steps),
                            ("least", 3, leasts))


class Drawn(Case):
    def test_one_to_one_and_back(self):
        for gap, least in ((0, 1), (0, 3), (1, 1), (1, 2), (2, 1), (2, 2), (3, 1), (9, 1), (0, 9), (9, 9)):
            for length in range(5):
                lowest = [least + gap * (length - i) for i in range(1, length + 1)]
                for left in range(7):
                    number = sum(lowest) + left
                    if number > 30:
                        continue
                    few = sorted(row for row in listed_rows(left) if len(row) <= length)
                    many = sorted(row for row in listed_rows(number)
                                  if len(row) == length and slow_apart(row, gap, least))
                    ends = []
                    for row in many:
                        end = tuple(part - low for part, low in zip(row, lowest) if part > low)
                        self.same((length, end), drawn_in, row=row, gap=gap, least=least)
                        self.same(row, drawn_out, length=length, row=end, gap=gap, least=least)
                        ends.append(end)
                    self.assertEqual(sorted(ends), few)

    def test_told_rows(self):
        for length, row, gap, least, end in (
                (3, (6, 3, 1), 2, 1, (1,)), (0, (), 9, 9, ()), (600, (1,) * 600, 0, 1, ()), (1, (9,), 9, 9, ()),
                (1, (600,), 9, 9, (591,)), (2, (18, 9), 9, 9, ()), (2, (591, 9), 9, 9, (573,)),
                (599, (2,) + (1,) * 598, 0, 1, (1,)), (10, tuple(range(90, 0, -9)), 9, 9, ())):
            self.same((length, end), drawn_in, row=row, gap=gap, least=least)
            self.same(row, drawn_out, length=length, row=end, gap=gap, least=least)

    def test_great_rows(self):
        lots = random.Random(79)
        for _ in range(200):
            gap, least = lots.choice(BOTH)
            row = random_row(lots, lots.randint(0, 99))
            length = len(row) + lots.randint(0, 3)
            total = sum(row) + sum(least + gap * below for below in range(length))
            if total > 600:
                self.fails(TooMany, "given", total, drawn_out, length, row, gap, least)
            else:
                found = drawn_out(length, row, gap, least)
                self.assertEqual((sum(found), slow_apart(found, gap, least)), (total, True))
                self.assertEqual(drawn_in(found, gap, least), (length, row))

    def test_not_apart(self):
        for row, gap, least in (((2, 2), 1, 1), ((3, 2), 2, 1), ((1,), 0, 2), ((18, 10), 9, 9), ((17, 9), 9, 9),
                                ((8,), 0, 9), ((1,) * 600, 1, 1), ((1,) * 600, 0, 2), ((19, 10, 1), 9, 2)):
            self.fails(NotApart, "given", row, drawn_in, row, gap, least)
            self.fails(NotApart, "given", row, drawn_in, least=least, gap=gap, row=row)

    def test_too_many_parts_then_too_great_sums(self):
        for length, row in ((0, (1,)), (1, (1, 1)), (599, (1,) * 600), (2, (590, 5, 5)), (0, (600,))):
            for gap, least in ((0, 1), (9, 9)):
                self.fails(NotApart, "given", row, drawn_out, length, row, gap, least)
                self.fails(NotApart, "given", row, drawn_out, least=least, gap=gap, row=row, length=length)
        for length, row, gap, least, total in (
                (1, (600,), 0, 1, 601), (1, (592,), 9, 9, 601), (600, (1,), 0, 1, 601), (600, (), 0, 2, 1200),
                (600, (), 9, 9, 600 * 9 + 9 * 600 * 599 // 2), (2, (574,), 9, 9, 601), (600, (1,) * 600, 0, 1, 1200)):
            self.fails(TooMany, "given", total, drawn_out, length, row, gap, least)
            self.fails(TooMany, "given", total, drawn_out, least=least, gap=gap, row=row, length=length)
        self.same((1,) * 600, drawn_out, length=600, row=(), gap=0, least=1)
        self.same((600,), drawn_out, length=1, row=(591,), gap=9, least=9)
        self.same((592, 8), drawn_out, length=2, row=(575,), gap=9, least=8)


if __name__ == "__main__":
    unittest.main()
