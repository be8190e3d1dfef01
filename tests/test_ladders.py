import math
import random
import unittest
from fractions import Fraction

from letparts.errors import InvalidNumber, InvalidRow, NotARule, TooMany
from letparts.ladders import ladders, steps_down, steps_up, strike_ladders
from letparts.rods import from_threads, strikes
from letparts.rows import hooks
from letparts.rules import Bans, Caps
from tests.helpers import (
    NOT_INTEGERS, NOT_ROWS, Case, given, listed_rows, random_bans, random_caps, random_row, random_unlike, slow_lets,
    unlike_rows)

NOT_RULES = NOT_INTEGERS + (0, "|1", "none", ((1,),), Caps, Bans)
NOT_RODS = NOT_INTEGERS + (-2, -1, 0, 1, 10, 24, 600, 10 ** 99)
EVERY = Caps.read("|*")
UNLIKE = Caps.read("|1")
ODD = Caps.read("|*0")
FEW = Bans.read("2+1 3")
SMALL = [row for number in range(9) for row in listed_rows(number)]


def some_rules():
    lots = random.Random(88)
    rules = [random_caps(lots, Caps) for _ in range(10)] + [random_bans(lots, Bans, 6) for _ in range(14)]
    return rules + [EVERY, UNLIKE, ODD, FEW, Caps.read("|0"), Bans(()), Bans(((1,),)), Bans.read("1+1 2+1 2+2+2 3+2")]


def boxes(row):
    return {(line, at) for line, part in enumerate(row) for at in range(part)}


def slow_steps(rule, row, number):
    """All rows of a number that a rule lets and that have all boxes of the row, or have only such."""
    own = boxes(row)
    return tuple(sorted(other for other in listed_rows(number)
                        if slow_lets(rule, other) and (own <= boxes(other) or boxes(other) <= own)))


def slow_ladders(rule, row, known):
    """How many ladders a row has, by those of the rows with one box less."""
    if row not in known:
        lower = [row[:at] + tuple(part for part in (row[at] - 1,) if part) + row[at + 1:]
                 for at in range(len(row)) if at + 1 == len(row) or row[at] > row[at + 1]]
        known[row] = sum(slow_ladders(rule, step, known) for step in lower) if slow_lets(rule, row) else 0
        if not row:
            known[row] = 1
    return known[row]


def slow_strike_ladders(row, rods, known):
    """In how many ways a row can be struck, strike by strike."""
    if (row, rods) not in known:
        below = strikes(row, rods)
        known[row, rods] = sum(slow_strike_ladders(lower, rods, known) for lower in below) if below else 1
    return known[row, rods]


def by_hooks(row):
    """How many ladders a row has by `|*`: n! over the product of its hooks."""
    return math.factorial(sum(row)) // math.prod(hooks(row))


def by_differences(row):
    """How many ladders an unlike row has by `|1`."""
    found = Fraction(math.factorial(sum(row)), math.prod(map(math.factorial, row)))
    for at, part in enumerate(row):
        for other in row[at + 1:]:
            found *= Fraction(part - other, part + other)
    return found


class Steps(Case):
    def test_against_listing(self):
        for rule in some_rules():
            for row in SMALL[::2]:
                self.same(slow_steps(rule, row, sum(row) + 1), steps_up, rule=rule, row=row)
                below = slow_steps(rule, row, sum(row) - 1) if row else ()
                self.same(below, steps_down, rule=rule, row=row)

    def test_rows_that_are_not_let(self):
        self.same(((4, 3),), steps_up, rule=UNLIKE, row=(3, 3))
        self.same(((3, 2),), steps_down, rule=UNLIKE, row=(3, 3))
        self.same(((3,),), steps_up, rule=ODD, row=(2,))
        self.same(((1,),), steps_down, rule=ODD, row=(2,))
        self.same(((2, 2),), steps_up, rule=FEW, row=(2, 1))
        self.same(((1, 1), (2,)), steps_down, rule=FEW, row=(2, 1))

    def test_told_rows(self):
        self.same(((1,),), steps_up, rule=EVERY, row=())
        self.same((), steps_down, rule=EVERY, row=())
        self.same(((),), steps_down, rule=EVERY, row=(1,))
        self.same((), steps_up, rule=Caps.read("|0"), row=())
        self.same(((3, 2), (4, 1)), steps_up, rule=UNLIKE, row=(3, 1))
        self.same(((4, 3, 1), (4, 4)), steps_down, rule=EVERY, row=(4, 4, 1))

    def test_greatest_sum(self):
        self.same(((24, 1), (25,)), steps_up, rule=EVERY, row=(24,))
        self.same(((23,),), steps_down, rule=EVERY, row=(24,))
        self.same(((1,) * 25, (2,) + (1,) * 23), steps_up, rule=Bans(()), row=(1,) * 24)
        self.same(((1,) * 23,), steps_down, rule=Bans(()), row=(1,) * 24)
        self.same(((7, 6, 5, 4, 2, 1), (8, 6, 5, 3, 2, 1)), steps_up, rule=UNLIKE, row=(7, 6, 5, 3, 2, 1))


class Ladders(Case):
    def test_step_by_step(self):
        for rule in some_rules():
            known = {}
            for row in SMALL:
                self.assertEqual(ladders(rule, row), slow_ladders(rule, row, known), (str(rule), row))
            for row in SMALL[::5]:
                self.same(known[row], ladders, rule=rule, row=row)
            for row in listed_rows(13)[::6] + listed_rows(24)[::150]:
                self.assertEqual(ladders(rule, row), slow_ladders(rule, row, known), (str(rule), row))

    def test_by_hooks(self):
        for rule in (EVERY, Bans(())):
            for row in SMALL + listed_rows(23)[::40] + listed_rows(24)[::40]:
                self.assertEqual(ladders(rule, row), by_hooks(row))
        self.same(by_hooks((7, 6, 5, 3, 2, 1)), ladders, rule=EVERY, row=(7, 6, 5, 3, 2, 1))

    def test_unlike_rows_by_differences(self):
        for number in list(range(13)) + [23, 24]:
            for row in unlike_rows(number)[::1 if number < 13 else 5]:
                self.assertEqual(ladders(UNLIKE, row), by_differences(row))

    def test_told_rows(self):
        for rule, row, many in ((EVERY, (), 1), (Caps.read("|0"), (), 1), (Bans(((1,),)), (), 1), (EVERY, (3, 2), 5),
                                (UNLIKE, (4, 2, 1), 7), (UNLIKE, (2, 2), 0), (ODD, (2,), 0), (ODD, (3,), 0),
                                (FEW, (3,), 0), (FEW, (2, 2), 0), (EVERY, (24,), 1), (EVERY, (1,) * 24, 1),
                                (ODD, (1,) * 24, 1), (Caps.read("|0"), (1,), 0), (ODD, (3, 1), 0),
                                (Bans(((2, 1),)), (9,), 1)):
            self.same(many, ladders, rule=rule, row=row)

    def test_sums_above_twenty_four(self):
        for function in (steps_up, steps_down, ladders):
            for rule in (EVERY, UNLIKE, FEW, Caps.read("|0")):
                for row in ((25,), (24, 1), (1,) * 25):
                    self.fails(TooMany, "given", 25, function, rule, row)
                self.fails(TooMany, "given", 600, function, row=(600,), rule=rule)

    def test_wrong(self):
        rules = given(NotARule, NOT_RULES)
        for function in (steps_up, steps_down, ladders):
            for row in ((3, 1), (25,)):
                self.fails_in_order(function, ("rule", FEW, rules), ("row", row, given(InvalidRow, NOT_ROWS)))


class StrikeLadders(Case):
    def test_strike_by_strike(self):
        known = {}
        for rods in range(2, 10):
            for row in SMALL + listed_rows(12) + listed_rows(16)[::9]:
                self.assertEqual(strike_ladders(row, rods), slow_strike_ladders(row, rods, known))
            for row in SMALL[::6]:
                self.same(known[row, rods], strike_ladders, row=row, rods=rods)

    def test_sums_up_to_sixty(self):
        lots = random.Random(89)
        known = {}
        for rods in range(2, 10):
            for number in (59, 60):
                rows = [(number,), (1,) * number, (number // 2, number - number // 2)[::-1]]
                if rods > 3:
                    rows += [random_row(lots, number), random_unlike(lots, number)]
                for row in rows:
                    self.assertEqual(strike_ladders(row, rods), slow_strike_ladders(row, rods, known))
        self.same(1, strike_ladders, row=(60,), rods=2)
        self.same(math.comb(30, 15), strike_ladders, row=from_threads(2, (), ((15,), (15,))), rods=2)

    def test_told_rows(self):
        self.same(3, strike_ladders, row=(4, 4, 1), rods=3)
        for rods in range(2, 10):
            self.same(1, strike_ladders, row=(), rods=rods)
            self.same(1, strike_ladders, row=(1,), rods=rods)

    def test_wrong(self):
        for row in ((4, 4, 1), (61,)):
            self.fails_in_order(strike_ladders, ("row", row, given(InvalidRow, NOT_ROWS)),
                                ("rods", 3, given(InvalidNumber, NOT_RODS)))
        for rods in (2, 9):
            for row in ((61,), (31, 30), (1,) * 61):
                self.fails(TooMany, "given", 61, strike_ladders, row, rods)
            self.fails(TooMany, "given", 600, strike_ladders, rods=rods, row=(300, 300))


if __name__ == "__main__":
    unittest.main()
