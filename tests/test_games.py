import random
import unittest

from letparts.errors import InvalidRow, InvalidRows, TooMany
from letparts.games import beside, best_moves, is_lost, rims, winning, worth
from letparts.rows import hooks
from tests.helpers import (
    NOT_INTEGERS, NOT_ROWS, Case, given, index, listed_rows, random_row, random_unlike, rims_by_hooks)

SMALL = [row for number in range(13) for row in listed_rows(number)]


def places(row, more=0):
    """The places of the beads of a row, with some noughts behind it."""
    many = len(row) + more
    return [part + many - i for i, part in enumerate(row + (0,) * more, start=1)]


def slow_rims(row, more=0):
    """The rows to which a bead can go to a lesser free place, in no order."""
    found = []
    lying = places(row, more)
    for place in lying:
        for free in range(place):
            if free not in lying:
                moved = sorted([other for other in lying if other != place] + [free])
                found.append(tuple(part for part in (other - at for at, other in enumerate(moved)) if part)[::-1])
    return found


def played(row, known):
    """The worth of a row by playing all games through."""
    if row not in known:
        below = {played(lower, known) for lower in slow_rims(row)}
        known[row] = min(k for k in range(len(below) + 1) if k not in below)
    return known[row]


def number_of(hook):
    """2 ** (K + 1) - 1, with 2 ** K the greatest power of 2 that divides it."""
    power = 1
    while hook % (2 * power) == 0:
        power *= 2
    return 2 * power - 1


def by_hooks(row):
    """The worth of a row by its hooks."""
    found = 0
    for hook in hooks(row):
        found ^= number_of(hook)
    return found


def by_places(row, more):
    """The worth of a row by the places of its beads."""
    found = 0
    lying = places(row, more)
    for at, place in enumerate(lying):
        found ^= place
        for other in lying[at + 1:]:
            found ^= number_of(place - other)
    return found


def played_beside(rows, known):
    """Whether who is to move at some rows beside one another can win, by playing all games through."""
    rows = tuple(sorted(rows))
    if rows not in known:
        known[rows] = any(not played_beside(rows[:at] + (lower,) + rows[at + 1:], known)
                          for at, row in enumerate(rows) for lower in slow_rims(row))
    return known[rows]


def great_rows(seed, numbers=(61, 200, 599, 600)):
    lots = random.Random(seed)
    found = [make(lots, number) for number in numbers for make in (random_row, random_unlike) for _ in range(4)]
    return found + [(600,), (1,) * 600, (300, 300), (25,) * 24, (61,), (1,) * 61]


class Rims(Case):
    def test_rims(self):
        for row in SMALL:
            expected = sorted(lower for _, lower in rims_by_hooks(row))
            self.same(tuple(expected), rims, row=row)
            self.assertEqual(len(set(expected)), sum(row))
            for more in range(3):
                self.assertEqual(sorted(slow_rims(row, more)), expected)

    def test_sums_up_to_sixty(self):
        lots = random.Random(90)
        for number in (24, 25, 59, 60):
            for row in (random_row(lots, number), random_unlike(lots, number), (number,), (1,) * number):
                found = rims(row)
                self.assertEqual(list(found), sorted(lower for _, lower in rims_by_hooks(row)))
                self.assertEqual((len(found), len(set(found))), (number, number))
                self.assertEqual(best_moves(row), tuple(lower for lower in found if by_hooks(lower) == 0))
                self.assertIs(is_lost(row), best_moves(row) == ())
        self.same(((),) + tuple((1,) * k for k in range(1, 60)), rims, row=(1,) * 60)
        self.same(((),), best_moves, row=(60,))

    def test_told_rows(self):
        self.same((), rims, row=())
        self.same((), best_moves, row=())
        self.same(((),), rims, row=(1,))
        self.same(((), (1, 1), (2,)), rims, row=(2, 1))
        self.same(((3, 2, 1), (4, 3, 1), (4, 4)), best_moves, row=(4, 4, 1))

    def test_sums_above_sixty(self):
        for function in (rims, best_moves):
            for row in ((61,), (31, 30), (1,) * 61):
                self.fails(TooMany, "given", 61, function, row)
                self.fails(TooMany, "given", 61, function, row=row)
            self.fails(TooMany, "given", 600, function, (1,) * 600)

    def test_wrong(self):
        for function in (rims, best_moves, worth, is_lost):
            self.fails_in_order(function, ("row", (2, 1), given(InvalidRow, NOT_ROWS)))


class Worths(Case):
    def test_by_playing(self):
        known = {}
        for row in SMALL:
            expected = played(row, known)
            self.same(expected, worth, row=row)
            self.same(expected == 0, is_lost, row=row)
            self.same(tuple(sorted(lower for lower in slow_rims(row) if known[lower] == 0)), best_moves, row=row)

    def test_by_hooks_and_by_places(self):
        for row in SMALL + great_rows(91):
            self.assertEqual(worth(row), by_hooks(row))
            for more in (0, 1, 2, 5):
                self.assertEqual(worth(row), by_places(row, more))
            self.assertIs(is_lost(row), worth(row) == 0)

    def test_one_heap(self):
        for number in (0, 1, 2, 24, 60, 61, 255, 256, 599, 600):
            self.same(number, worth, row=(number,) if number else ())
            self.same(number, worth, row=(1,) * number)
            self.same(number == 0, is_lost, row=(1,) * number)
        self.same(5, worth, row=(4, 4, 1))
        self.same(True, is_lost, row=(4, 4))


class Beside(Case):
    def test_by_playing(self):
        known = {}
        lots = random.Random(92)
        small = [row for row in SMALL if sum(row) <= 6]
        for _ in range(120):
            rows = tuple(lots.choice(small) for _ in range(lots.randint(0, 3)))
            can_win = played_beside(rows, known)
            self.assertIs(beside(rows) != 0, can_win)
            expected = tuple(sorted(
                (at, lower) for at, row in enumerate(rows) for lower in slow_rims(row)
                if not played_beside(rows[:at] + (lower,) + rows[at + 1:], known)))
            self.same(expected, winning, rows=rows)
            self.assertIs(expected != (), can_win)

    def test_worths_without_carrying(self):
        lots = random.Random(93)
        great = great_rows(94)
        for _ in range(40):
            rows = tuple(lots.choice(SMALL + great) for _ in range(lots.randint(0, 60)))
            expected = 0
            for row in rows:
                expected ^= by_hooks(row)
            self.same(expected, beside, rows=rows)

    def test_great_winning(self):
        lots = random.Random(95)
        for many in (1, 2, 5):
            rows = tuple(random_row(lots, lots.choice((59, 60))) for _ in range(many))
            found = winning(rows)
            self.assertEqual(list(found), sorted(set(found)))
            expected = {(at, lower) for at, row in enumerate(rows) for _, lower in rims_by_hooks(row)
                        if beside(rows[:at] + (lower,) + rows[at + 1:]) == 0}
            self.assertEqual(set(found), expected)

    def test_told_rows(self):
        self.same(0, beside, rows=())
        self.same((), winning, rows=())
        self.same(0, beside, rows=((),))
        self.same(0, beside, rows=((3,), (1, 1, 1)))
        self.same(((0, (1,)),), winning, rows=((2,), (1,)))
        self.same((), winning, rows=((3,), (3,)))
        self.same((), winning, rows=((1,), (), (1,), (4, 4)))
        self.same(((0, (4,)),), winning, rows=((5,), (4,)))
        self.same(((0, ()), (2, ()), (3, ())), winning, rows=((1,), (), (1,), (1,)))

    def test_sixty_rows(self):
        self.same(0, beside, rows=((60,),) * 60)
        self.same(600, beside, rows=((600,),) * 59 + ((),))
        self.same((), winning, rows=((60,),) * 60)
        self.same(tuple((at, (59,)) for at in range(59)), winning, rows=((60,),) * 59 + ((59,),))
        for function in (beside, winning):
            self.fails(InvalidRows, "index", 60, function, ((2,),) * 61)
            self.fails(InvalidRows, "index", 60, function, ((61,),) * 70)
            self.fails(InvalidRows, "index", 60, function, rows=((2,),) * 60 + (7,))
            self.fails(InvalidRows, "index", 59, function, ((2,),) * 59 + (7, (2,)))

    def test_first_sum_above_sixty(self):
        for rows, total in ((((61,),), 61), (((60,), (62,), (61,)), 62), (((),) * 59 + ((600,),), 600),
                            (((1,) * 61, (600,)), 61), (((3, 1), (600,), (61,)), 600)):
            self.fails(TooMany, "given", total, winning, rows)
            self.fails(TooMany, "given", total, winning, rows=rows)
        self.fails(InvalidRows, "index", 1, winning, ((61,), (1, 2)))

    def test_wrong(self):
        kinds = [(value, None) for value in NOT_INTEGERS if not isinstance(value, tuple)]
        kinds += [(3, None), ([(1,)], None), ("1", None), ((2,), 0), (((600,), (599,), 1), 2)]
        kinds += [(((1,), value), 1) for value in NOT_ROWS] + [((value, value), 0) for value in NOT_ROWS]
        for function in (beside, winning):
            self.fails_in_order(function, ("rows", ((1,),), index(InvalidRows, *kinds)))


if __name__ == "__main__":
    unittest.main()
