import random
import unittest

from letparts.counts import counts
from letparts.errors import InvalidNumber, InvalidRow, NotOdd, NotOwn, NotUnlike
from letparts.rules import Caps
from letparts.signed import signed_counts
from letparts.squares import bent, by_squares, count_own, is_own, own_rows, squares, unbent
from tests.helpers import NOT_INTEGERS, NOT_ROWS, Case, given, listed_rows, random_row, random_unlike

SMALL = [row for number in range(15) for row in listed_rows(number)]


def slow_turned(row):
    """The turned row, by its words."""
    return tuple(sum(part >= k for part in row) for k in range(1, max(row, default=0) + 1))


def slow_squares(row):
    """The squares of a row, by their words."""
    if not row:
        return ()
    side = max(k for k in range(len(row) + 1) if sum(part >= k for part in row) >= k)
    return (side,) + slow_squares(row[side:])


def slow_bent(row):
    """An unlike odd row with each part laid as a corner about one diagonal."""
    boxes = set()
    for at, part in enumerate(row):
        for far in range((part + 1) // 2):
            boxes |= {(at, at + far), (at + far, at)}
    lines = [line for line, _ in boxes]
    return tuple(lines.count(line) for line in range(len(set(lines))))


def unlike_odd(number):
    """All rows of a number with unlike odd parts."""
    return [row for row in listed_rows(number) if len(set(row)) == len(row) and all(part % 2 for part in row)]


class Squares(Case):
    def test_squares(self):
        for row in SMALL:
            self.same(slow_squares(row), squares, row=row)
        lots = random.Random(77)
        for row in [random_row(lots, 600) for _ in range(20)] + [random_unlike(lots, 599) for _ in range(20)]:
            self.assertEqual(squares(row), slow_squares(row))

    def test_told_rows(self):
        for row, expected in (((), ()), ((1,), (1,)), ((600,), (1,)), ((1,) * 600, (1,) * 600), ((300, 300), (2,)),
                              ((25,) * 24, (24,)), ((24,) * 25, (24, 1)), ((2,) * 300, (2,) * 150),
                              ((4, 4, 1), (2, 1)), ((3, 3, 2, 2), (2, 2)), ((2, 2, 2), (2, 1)), ((2, 1), (1, 1))):
            self.same(expected, squares, row=row)

    def test_by_squares(self):
        for number in range(21):
            many = [len(slow_squares(row)) for row in listed_rows(number)]
            self.same(tuple(many.count(k) for k in range(max(many) + 1)), by_squares, number=number)
        self.same((1,), by_squares, number=0)
        self.same((0, 1), by_squares, number=1)
        for number, every in ((23, 1255), (24, 1575)):
            found = by_squares(number)
            self.assertEqual((len(found), sum(found), found[0], found[-1]), (number + 1, every, 0, 1))

    def test_at_most_so_many_squares(self):
        # Sizes that leave 0, J + 1 or J + 2 divided by 2J + 3 must not come (Andrews 1979); the tail holds up to eight.
        for most in range(1, 3):
            turn = 2 * most + 3
            tail = tuple(0 if size % turn in (0, most + 1, most + 2) else None for size in range(1, turn + 1))
            expected = counts(Caps((), tail), 24)
            self.assertEqual(tuple(sum(by_squares(number)[:most + 1]) for number in range(25)), expected)
        for most in range(3, 8):
            turn = 2 * most + 3
            for number in range(25):
                found = sum(by_squares(number)[:most + 1])
                allowed = [size for size in range(1, number + 1) if size % turn not in (0, most + 1, most + 2)]
                ways = [1] + [0] * number
                for size in allowed:
                    for n in range(size, number + 1):
                        ways[n] += ways[n - size]
                self.assertEqual(found, ways[number])

    def test_wrong(self):
        self.fails_in_order(squares, ("row", (2, 1), given(InvalidRow, NOT_ROWS)))
        self.fails_in_order(by_squares, ("number", 4, given(InvalidNumber, NOT_INTEGERS + (-1, 25, 60, 400, 10 ** 99))))


class Own(Case):
    def test_is_own(self):
        for row in SMALL:
            self.same(row == slow_turned(row), is_own, row=row)
        for row, expected in (((24,) * 24, True), ((25,) * 24, False), ((300,) + (1,) * 299, True), ((600,), False),
                              ((1,) * 600, False), ((300,) + (1,) * 300, False), ((), True), ((1,), True)):
            self.same(expected, is_own, row=row)

    def test_bent_one_to_one_and_back(self):
        for number in range(25):
            rows = unlike_odd(number)
            own = sorted(row for row in listed_rows(number) if row == slow_turned(row))
            self.assertEqual(sorted(bent(row) for row in rows), own)
            self.same(tuple(own), own_rows, number=number)
            self.same(len(own), count_own, number=number)
            for row in rows:
                self.same(slow_bent(row), bent, row=row)
                self.same(row, unbent, row=bent(row))
            for row in own:
                self.assertEqual(bent(unbent(row)), row)

    def test_told_rows(self):
        for row, end in (((), ()), ((1,), (1,)), ((3,), (2, 1)), ((5, 3), (3, 3, 2)), ((599,), (300,) + (1,) * 299),
                         ((599, 1), (300, 2) + (1,) * 298), (tuple(range(47, 0, -2)), (24,) * 24)):
            self.same(end, bent, row=row)
            self.same(row, unbent, row=end)

    def test_own_rows_up_to_sixty(self):
        for number in range(25, 61):
            found = own_rows(number)
            self.assertEqual(len(found), count_own(number))
            self.assertEqual(list(found), sorted(set(found)))
            for row in found:
                self.assertEqual((sum(row), slow_turned(row)), (number, row))
        self.same(((2, 2),), own_rows, number=4)
        self.same(((),), own_rows, number=0)
        self.same((), own_rows, number=2)

    def test_count_own_up_to_four_hundred(self):
        found = [1] + [0] * 400
        for size in range(1, 401, 2):
            for number in range(400, size - 1, -1):
                found[number] += found[number - size]
        for number in (0, 1, 2, 24, 25, 60, 61, 200, 399, 400):
            self.same(found[number], count_own, number=number)
        signed = signed_counts(Caps((), (None,)), 400)
        for number in range(0, 401, 7):
            self.assertEqual(signed[number], (-1) ** number * count_own(number))

    def test_wrong(self):
        rows = given(InvalidRow, NOT_ROWS)
        self.fails_in_order(is_own, ("row", (2, 1), rows))
        # A row with like parts and an even part is told to have like parts.
        like = ((1, 1), (3, 3), (300, 300), (1,) * 600, (4, 4, 1), (5, 5, 2), (3, 2, 1, 1))
        odd = ((2,), (600,), (3, 2), (5, 4, 1), (598, 1))
        self.fails_in_order(bent, ("row", (3, 1), rows + given(NotUnlike, like) + given(NotOdd, odd)))
        not_own = ((2,), (1, 1), (600,), (1,) * 600, (3, 1), (25,) * 24, (4, 4, 1))
        self.fails_in_order(unbent, ("row", (2, 1), rows + given(NotOwn, not_own)))
        self.fails_in_order(own_rows, ("number", 4, given(InvalidNumber, NOT_INTEGERS + (-1, 61, 400, 10 ** 99))))
        self.fails_in_order(count_own, ("number", 4, given(InvalidNumber, NOT_INTEGERS + (-1, 401, 600, 10 ** 99))))


if __name__ == "__main__":
    unittest.main()
