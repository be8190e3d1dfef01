import itertools
import unittest

from letparts import rows
from letparts.errors import InvalidFeet, InvalidNumber, InvalidRow, InvalidRows, InvalidText, TooMany
from tests.helpers import NOT_INTEGERS, NOT_ROWS, Case, given, index, listed_rows

MOST = ((600,), (1,) * 600, (300, 300), (599, 1))
SMALL = [row for number in range(11) for row in listed_rows(number)]
ROW_FAULTS = given(InvalidRow, NOT_ROWS)


def boxes(row):
    return {(line, at) for line, part in enumerate(row) for at in range(part)}


class Texts(Case):
    def test_as_text(self):
        for row, text in (((), "-"), ((1,), "1"), ((4, 4, 1), "4+4+1"), ((600,), "600"), ((590, 10), "590+10")):
            self.same(text, rows.as_text, row=row)
            self.same(row, rows.from_text, text=text)

    def test_there_and_back(self):
        for row in SMALL + list(MOST):
            self.assertEqual(rows.from_text(rows.as_text(row)), row)
            self.assertEqual(rows.as_text(row), "+".join(map(str, row)) or "-")

    def test_wrong(self):
        self.fails_in_order(rows.as_text, ("row", (1,), ROW_FAULTS))
        texts = ("0", "01", "001", "1+2", "+", "1+", "+1", "1++1", " 1", "1 ", "1 +1", "-1", "+-", "--", "-+-",
                 "1+-", "601", "600+1", "300+300+1", "1000", "1_0", "a", "1.0", "none", "|1", "1|1", "()", "(1,)",
                 "1,1", "1\n", "\n", " ", "1" * 4000, "+".join(["1"] * 601), "4+4+01", "4+0", "0+0", "5-1")
        kinds = (True, False, None, "", b"1", 1, (), (1,), ("1",), [1], ["1"], {"1": 1}, object(), int)
        self.fails_in_order(rows.from_text, ("text", "1", given(InvalidText, texts + kinds)))


class Looks(Case):
    def test_turned(self):
        for row in SMALL:
            columns = tuple(sum(part >= k for part in row) for k in range(1, (row or (0,))[0] + 1))
            self.same(columns, rows.turned, row=row)
            self.assertEqual(rows.turned(columns), row)
            self.assertEqual(boxes(columns), {(at, line) for line, at in boxes(row)})
        self.same((1,) * 600, rows.turned, row=(600,))
        self.same((600,), rows.turned, row=(1,) * 600)
        self.same((2,) * 300, rows.turned, row=(300, 300))

    def test_square(self):
        for row in SMALL:
            fitting = [k for k in range(len(row) + 1) if sum(part >= k for part in row) >= k]
            self.same(max(fitting), rows.square, row=row)
        self.same(24, rows.square, row=(25,) * 24)
        self.same(1, rows.square, row=(600,))

    def test_feet(self):
        for row in SMALL:
            arms, legs = rows.feet(row)
            side = rows.square(row)
            self.same((tuple(row[i - 1] - i for i in range(1, side + 1)),
                       tuple(rows.turned(row)[i - 1] - i for i in range(1, side + 1))), rows.feet, row=row)
            self.assertEqual(side + sum(arms) + sum(legs), sum(row))
            self.same(row, rows.from_feet, arms=arms, legs=legs)
            self.assertEqual(rows.feet(rows.turned(row)), (legs, arms))

    def test_each_feet_has_its_row(self):
        for side in range(4):
            falling = list(itertools.combinations(range(5, -1, -1), side))
            for arms, legs in itertools.product(falling, repeat=2):
                row = rows.from_feet(arms, legs)
                self.assertEqual(sum(row), side + sum(arms) + sum(legs))
                self.assertEqual(list(row), sorted(row, reverse=True))
                self.assertEqual(rows.feet(row), (arms, legs))

    def test_greatest_feet(self):
        self.same((600,), rows.from_feet, arms=(599,), legs=(0,))
        self.same((1,) * 600, rows.from_feet, arms=(0,), legs=(599,))
        self.same((300, 299, 1), rows.from_feet, arms=(299, 297), legs=(2, 0))
        self.fails(TooMany, "given", 601, rows.from_feet, (600,), (0,))
        self.fails(TooMany, "given", 601, rows.from_feet, (0,), (600,))
        self.fails(TooMany, "given", 601, rows.from_feet, (300, 297), (2, 0))
        self.fails(TooMany, "given", 10 ** 99 + 1, rows.from_feet, (10 ** 99,), (0,))

    def test_wrong_feet(self):
        no_feet = NOT_INTEGERS[:-3] + (
            3, (-1,), (2, -1), (1, 1), (1, 2), (3, 0, 1), (True,), (2, False), (None,), ("1",), ((1,),), (0, 0))
        unequal = ((), (0,), (3, 2, 1), (900, 800, 700))
        self.fails_in_order(
            rows.from_feet,
            ("arms", (3, 2), index(InvalidFeet, *[(value, 0) for value in no_feet])),
            ("legs", (2, 0), index(InvalidFeet, *[(value, 1) for value in no_feet + unequal])))
        self.fails(InvalidFeet, "index", 1, rows.from_feet, (900,), (1, 1))
        self.fails(InvalidFeet, "index", 1, rows.from_feet, (900,), ())
        self.fails(InvalidFeet, "index", 1, rows.from_feet, (), (0,))

    def test_hooks(self):
        for row in SMALL:
            found = []
            for line, at in boxes(row):
                found.append(1 + sum(b == at and a > line or a == line and b > at for a, b in boxes(row)))
            self.same(tuple(sorted(found, reverse=True)), rows.hooks, row=row)
        self.same(tuple(range(600, 0, -1)), rows.hooks, row=(600,))

    def test_wrong_rows(self):
        for function in (rows.turned, rows.square, rows.feet, rows.hooks):
            self.fails_in_order(function, ("row", (2, 1), ROW_FAULTS))
            for row in MOST:
                function(row)


class Together(Case):
    def test_stands_in(self):
        for one, other in itertools.product(SMALL[:40], repeat=2):
            expected = all(one.count(size) <= other.count(size) for size in one)
            self.same(expected, rows.stands_in, one=one, other=other)
        self.same(True, rows.stands_in, one=(), other=())
        self.same(False, rows.stands_in, one=(1,), other=())
        self.same(False, rows.stands_in, one=(1,) * 600, other=(1,) * 599)

    def test_together(self):
        for one, other in itertools.product(SMALL[:40], repeat=2):
            self.same(tuple(sorted(one + other, reverse=True)), rows.together, one=one, other=other)
        self.same((300, 300), rows.together, one=(300,), other=(300,))
        self.same((600,), rows.together, one=(), other=(600,))
        self.fails(TooMany, "given", 601, rows.together, (300,), (301,))
        self.fails(TooMany, "given", 1200, rows.together, (1,) * 600, (600,))

    def test_wrong_pairs(self):
        faults = ROW_FAULTS
        for function in (rows.stands_in, rows.together):
            self.fails_in_order(function, ("one", (600,), faults), ("other", (2, 1), faults))

    def test_join(self):
        self.same((), rows.join, rows=())
        self.same((), rows.join, rows=((),))
        self.same((2, 2, 1), rows.join, rows=((2, 2), (2, 1)))
        for lot in itertools.product(SMALL[:14], repeat=3):
            joined = rows.join(lot)
            sizes = {size for row in lot for size in row}
            expected = [size for size in sizes for _ in range(max(row.count(size) for row in lot))]
            self.assertEqual(joined, tuple(sorted(expected, reverse=True)))
            self.assertEqual(joined, rows.join(lot[::-1]))
            self.assertEqual(joined, rows.join(lot + lot))

    def test_stands_where_all_of_them_stand(self):
        for lot in itertools.combinations(SMALL[:14], 2):
            for row in SMALL:
                every = all(rows.stands_in(one, row) for one in lot)
                self.assertEqual(rows.stands_in(rows.join(lot), row), every)

    def test_join_of_many(self):
        self.same((7,) * 60, rows.join, rows=tuple((7,) * k for k in range(1, 61)))
        self.fails(InvalidRows, "index", 60, rows.join, ((7,),) * 61)
        self.fails(InvalidRows, "index", 60, rows.join, ((7,),) * 70)
        self.fails(InvalidRows, "index", 60, rows.join, ((7,),) * 60 + (7,))
        self.fails(InvalidRows, "index", 59, rows.join, ((7,),) * 59 + (7, 7))
        self.fails(InvalidRows, "index", 3, rows.join, ((7,),) * 3 + ((1, 2),) + ((7,),) * 60)
        self.fails(InvalidRows, "index", 60, rows.join, ((600,), (599,)) * 30 + ((1,),))

    def test_join_too_great(self):
        self.same((300, 299, 1), rows.join, rows=((300,), (299,), (1,)))
        self.fails(TooMany, "given", 601, rows.join, ((300,), (299,), (1, 1)))
        self.fails(TooMany, "given", sum(range(600, 540, -1)), rows.join, tuple((k,) for k in range(600, 540, -1)))

    def test_wrong_join(self):
        kinds = [(value, None) for value in NOT_INTEGERS if not isinstance(value, tuple)]
        kinds += [(3, None), ([(1,)], None), ("1", None), ((2,), 0), (((600,), (599,), 1), 2)]
        kinds += [(((1,), value), 1) for value in NOT_ROWS] + [((value, value), 0) for value in NOT_ROWS]
        self.fails_in_order(rows.join, ("rows", ((1,),), index(InvalidRows, *kinds)))


class Places(Case):
    def test_all_rows(self):
        self.same(((),), rows.all_rows, number=0)
        self.same(((1,),), rows.all_rows, number=1)
        self.same(((1, 1, 1), (2, 1), (3,)), rows.all_rows, number=3)
        for number in range(19):
            self.assertEqual(rows.all_rows(number), tuple(sorted(listed_rows(number))))
        self.assertEqual([len(rows.all_rows(number)) for number in (23, 24)], [1255, 1575])

    def test_nth_row_and_place(self):
        for number in (0, 1, 2, 9, 16, 24):
            for at, row in enumerate(rows.all_rows(number)):
                self.assertEqual(rows.nth_row(number, at), row)
                self.assertEqual(rows.place_of(row), at)
        self.same((4, 4, 1), rows.nth_row, number=9, index=17)
        self.same(17, rows.place_of, row=(4, 4, 1))
        self.same((), rows.nth_row, number=0, index=0)
        self.same(0, rows.place_of, row=())

    def test_greatest_places(self):
        last = 3972999029388 - 1
        self.same((200,), rows.nth_row, number=200, index=last)
        self.same(last, rows.place_of, row=(200,))
        self.same((1,) * 200, rows.nth_row, number=200, index=0)
        self.same(0, rows.place_of, row=(1,) * 200)
        for at in (1, 10 ** 6, 10 ** 12, last - 1):
            self.assertEqual(rows.place_of(rows.nth_row(200, at)), at)
            self.assertLess(rows.nth_row(200, at - 1), rows.nth_row(200, at))
        self.fails(TooMany, "given", 201, rows.place_of, (201,))
        self.fails(TooMany, "given", 201, rows.place_of, (1,) * 201)
        self.fails(TooMany, "given", 600, rows.place_of, (600,))

    def test_wrong(self):
        self.fails_in_order(rows.all_rows, ("number", 3, given(InvalidNumber, NOT_INTEGERS + (-1, 25, 400, 10 ** 99))))
        self.fails_in_order(
            rows.nth_row,
            ("number", 9, given(InvalidNumber, NOT_INTEGERS + (-1, 201, 400, 10 ** 99))),
            ("index", 0, given(InvalidNumber, NOT_INTEGERS + (-1, -30, 30, 31, 10 ** 99))))
        self.fails(InvalidNumber, "given", 1, rows.nth_row, 0, 1)
        self.fails(InvalidNumber, "given", 3972999029388, rows.nth_row, 200, 3972999029388)
        self.fails_in_order(rows.place_of, ("row", (2, 1), ROW_FAULTS))


if __name__ == "__main__":
    unittest.main()
