import random
import unittest

from letparts.counts import count
from letparts.errors import InvalidNumber, InvalidRow, NotARule, NotLet, TooMany
from letparts.listed import count_up_to, let_rows, next_let, nth_let, place_let
from letparts.rules import Bans, Caps, lets
from tests.helpers import NOT_INTEGERS, NOT_ROWS, Case, given, listed_rows, random_bans, random_caps, slow_lets

NOT_RULES = NOT_INTEGERS + (0, "|1", "none", ((1,),), Caps, Bans)
NOT_LED = NOT_INTEGERS + (-1, 61, 400, 10 ** 99)
EVERY = Caps.read("|*")
UNLIKE = Caps.read("|1")
ODD = Caps.read("|*0")
FEW = Bans.read("2+1 3")
NONE = Caps.read("|0")


def some_rules(seed, many):
    lots = random.Random(seed)
    rules = [random_caps(lots, Caps) for _ in range(many)] + [random_bans(lots, Bans) for _ in range(many)]
    return rules + [EVERY, UNLIKE, ODD, FEW, NONE, Bans(()), Bans(((1,),)), Bans.read("1+1 2+1 2+2+2 3+2")]


class Listed(Case):
    def test_let_rows(self):
        for rule in some_rules(21, 12):
            for number in (0, 1, 2, 7, 12):
                expected = tuple(sorted(row for row in listed_rows(number) if slow_lets(rule, row)))
                self.same(expected, let_rows, rule=rule, number=number)
        self.assertEqual(len(let_rows(EVERY, 24)), 1575)
        self.assertEqual(len(let_rows(Bans(()), 23)), 1255)
        self.same(((),), let_rows, rule=NONE, number=0)
        self.same((), let_rows, rule=NONE, number=24)

    def test_count_up_to(self):
        for rule in some_rules(22, 12):
            for number in (0, 1, 5, 11):
                for most in (0, 1, 2, 3, 5, 10, 11, 12, 60):
                    expected = sum(slow_lets(rule, row) for row in listed_rows(number, min(number, most)))
                    self.assertEqual(count_up_to(rule, number, most), expected, (str(rule), number, most))
        self.same(1, count_up_to, rule=FEW, number=0, most=0)
        self.same(0, count_up_to, rule=FEW, number=1, most=0)
        self.same(966467, count_up_to, rule=EVERY, number=60, most=60)
        self.same(966467 - 1, count_up_to, rule=Bans(()), number=60, most=59)
        self.same(31, count_up_to, rule=EVERY, number=60, most=2)
        self.same(2, count_up_to, rule=FEW, number=6, most=2)

    def test_count_up_to_of_great_numbers(self):
        for rule in some_rules(23, 8):
            for number in (40, 59, 60):
                self.assertEqual(count_up_to(rule, number, 60), count(rule, number))
                self.assertEqual(count_up_to(rule, number, number), count(rule, number))
                behind = sum(count_up_to(rule, number, most) - count_up_to(rule, number, most - 1)
                             for most in range(1, 61))
                self.assertEqual(behind, count(rule, number))


class Places(Case):
    def test_against_listing(self):
        for rule in some_rules(24, 12):
            for number in (0, 1, 6, 13):
                rows = let_rows(rule, number)
                for at, row in enumerate(rows):
                    self.assertEqual(nth_let(rule, number, at), row)
                    self.assertEqual(place_let(rule, row), at)
                    behind = rows[at + 1] if at + 1 < len(rows) else None
                    self.assertEqual(next_let(rule, row), behind)
                self.fails(InvalidNumber, "given", len(rows), nth_let, rule, number, len(rows))
        self.same((3, 3, 3), nth_let, rule=ODD, number=9, index=3)
        self.same(2, place_let, rule=ODD, row=(3, 3, 1, 1, 1))
        self.same((4, 2), next_let, rule=FEW, row=(4, 1, 1))
        self.same(None, next_let, rule=FEW, row=(6,))
        self.same(None, next_let, rule=FEW, row=())
        self.same(0, place_let, rule=NONE, row=())
        self.same((), nth_let, rule=NONE, number=0, index=0)

    def test_great_numbers(self):
        lots = random.Random(25)
        for rule in some_rules(26, 6):
            for number in (25, 47, 60):
                many = count(rule, number)
                for at in sorted({lots.randrange(many) for _ in range(4)} | {0, many - 1} if many else ()):
                    row = nth_let(rule, number, at)
                    self.assertEqual(sum(row), number)
                    self.assertTrue(lets(rule, row))
                    self.assertEqual(place_let(rule, row), at)
                    behind = next_let(rule, row)
                    self.assertEqual(behind, nth_let(rule, number, at + 1) if at + 1 < many else None)
                    self.assertTrue(behind is None or behind > row)
        self.same((60,), nth_let, rule=EVERY, number=60, index=966466)
        self.same((1,) * 60, nth_let, rule=EVERY, number=60, index=0)
        self.same(966466, place_let, rule=Bans(()), row=(60,))
        self.same(None, next_let, rule=Bans(()), row=(60,))
        self.same((2,) + (1,) * 58, next_let, rule=EVERY, row=(1,) * 60)

    def test_last_errors(self):
        for function in (place_let, next_let):
            for rule in (EVERY, NONE, Bans(()), FEW):
                self.fails(TooMany, "given", 61, function, rule, (61,))
                self.fails(TooMany, "given", 61, function, rule, (31, 30))
                self.fails(TooMany, "given", 600, function, rule, (1,) * 600)
            self.fails(TooMany, "given", 61, function, Bans(((40,),)), (40, 21))
            self.fails(NotLet, "given", (40, 20), function, Bans(((40,),)), (40, 20))
            self.fails(NotLet, "given", (30, 30), function, UNLIKE, (30, 30))
            self.fails(NotLet, "given", (2, 1), function, rule=FEW, row=(2, 1))
            self.fails(InvalidRow, "given", (40, 601), function, UNLIKE, (40, 601))
        self.fails(TooMany, "given", 62, place_let, UNLIKE, (31, 31))


class Wrong(Case):
    def test_in_order(self):
        rules = ("rule", FEW, given(NotARule, NOT_RULES))
        self.fails_in_order(let_rows, rules, ("number", 9, given(InvalidNumber, NOT_INTEGERS + (-1, 25, 60, 400))))
        led = ("number", 9, given(InvalidNumber, NOT_LED))
        self.fails_in_order(count_up_to, rules, led, ("most", 9, given(InvalidNumber, NOT_LED)))
        self.fails_in_order(
            nth_let, rules, led, ("index", 0, given(InvalidNumber, NOT_INTEGERS + (-1, -30, 30, 10 ** 99))))
        for function in (place_let, next_let):
            self.fails_in_order(function, rules, ("row", (2, 2), given(InvalidRow, NOT_ROWS)))

    def test_no_such_index(self):
        self.fails(InvalidNumber, "given", 0, nth_let, NONE, 1, 0)
        self.fails(InvalidNumber, "given", 1, nth_let, NONE, 0, 1)
        self.fails(InvalidNumber, "given", 966467, nth_let, EVERY, 60, 966467)
        self.fails(InvalidNumber, "given", -1, nth_let, EVERY, 60, -1)


if __name__ == "__main__":
    unittest.main()
