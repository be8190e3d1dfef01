import random
import unittest

from letparts.counts import count
from letparts.errors import InvalidRow, NotAlike, NotCaps, NotLet, TooMany
from letparts.exchange import exchanged, exchanges
from letparts.listed import let_rows, nth_let
from letparts.rules import Bans, Caps, lets
from tests.alike_rules import ALIKE_CAPS, UNLIKE_CAPS
from tests.helpers import NOT_INTEGERS, NOT_ROWS, Case, given

NOT_RULES = NOT_INTEGERS + (0, "|1", "none", ((1,),), Caps, Bans)
UNLIKE = Caps.read("|1")
ODD = Caps.read("|*0")
PAIRS = [(Caps.read(text), Caps.read(other)) for texts in ALIKE_CAPS for text, other in (texts, texts[::-1])]


def ban_sizes(rule, most):
    """The sizes of the bans of a cap rule by their sums up to the greatest one."""
    found = {}
    for size in range(1, most + 1):
        cap = rule.cap(size)
        if cap is not None and size * (cap + 1) <= most:
            found.setdefault(size * (cap + 1), []).append(size)
    return found


def slow_exchange(row, rule, other, choose):
    """The row for which a row is exchanged, and the sizes of the bans that `choose` took out."""
    sizes, others = ban_sizes(rule, sum(row)), ban_sizes(other, sum(row))
    row = list(row)
    taken = []
    while True:
        bans = [(total, at, size) for total in others for at, size in enumerate(others[total])
                if row.count(size) * size >= total]
        if not bans:
            return tuple(sorted(row, reverse=True)), tuple(taken)
        total, at, size = choose(bans)
        for _ in range(total // size):
            row.remove(size)
        row += [sizes[total][at]] * (total // sizes[total][at])
        taken.append(size)


class Exchanges(Case):
    def test_one_to_one_and_back(self):
        for rule, other in PAIRS:
            for number in (0, 1, 2, 3, 6, 10, 13):
                rows = let_rows(rule, number)
                found = [exchanged(row, rule, other) for row in rows]
                self.assertEqual(tuple(sorted(found)), let_rows(other, number))
                for row, end in zip(rows, found):
                    self.assertEqual(exchanged(end, other, rule), row)

    def test_least_sums_first(self):
        for rule, other in PAIRS:
            for number in (6, 11):
                for row in let_rows(rule, number):
                    end, taken = slow_exchange(row, rule, other, min)
                    self.same(end, exchanged, row=row, rule=rule, other=other)
                    self.same(taken, exchanges, row=row, rule=rule, other=other)

    def test_any_order_leads_there(self):
        lots = random.Random(61)
        for rule, other in PAIRS:
            for row in let_rows(rule, 12):
                end = exchanged(row, rule, other)
                many = len(exchanges(row, rule, other))
                for choose in (min, max, lots.choice):
                    found, taken = slow_exchange(row, rule, other, choose)
                    self.assertEqual((found, len(taken)), (end, many))

    def test_sums_up_to_sixty(self):
        lots = random.Random(62)
        for rule, other in PAIRS:
            for number in (59, 60):
                many = count(rule, number)
                for at in sorted({lots.randrange(many) for _ in range(5)} | {many - 1} if many else ()):
                    row = nth_let(rule, number, at)
                    end, taken = slow_exchange(row, rule, other, min)
                    self.assertEqual(exchanged(row, rule, other), end)
                    self.assertEqual(exchanges(row, rule, other), taken)
                    self.assertTrue(lets(other, end))
                    self.assertEqual((sum(end), exchanged(end, other, rule)), (number, row))

    def test_told_rows(self):
        self.same((3, 3, 1, 1, 1, 1, 1), exchanged, row=(6, 4, 1), rule=UNLIKE, other=ODD)
        self.same((4, 2, 2, 6), exchanges, row=(6, 4, 1), rule=UNLIKE, other=ODD)
        self.same((), exchanged, row=(), rule=UNLIKE, other=ODD)
        self.same((), exchanges, row=(), rule=UNLIKE, other=ODD)
        self.same((5, 3, 1), exchanged, row=(5, 3, 1), rule=UNLIKE, other=ODD)
        self.same((), exchanges, row=(5, 3, 1), rule=UNLIKE, other=ODD)
        self.same((15,) * 4, exchanged, row=(60,), rule=UNLIKE, other=ODD)
        self.same((60, 30, 30), exchanges, row=(60,), rule=UNLIKE, other=ODD)
        self.same((32, 16, 8, 4), exchanged, row=(1,) * 60, rule=ODD, other=UNLIKE)
        # Of the bans with the sum 6, those of the sizes 1 and 2, the lesser size comes first.
        rule, other = Caps.read("**1**0|*"), Caps.read("52|*")
        self.same((1, 2), exchanges, row=(2,) * 3 + (1,) * 6, rule=rule, other=other)
        self.same((6, 3, 3), exchanged, row=(2,) * 3 + (1,) * 6, rule=rule, other=other)

    def test_wrong(self):
        rules = given(NotCaps, NOT_RULES + (Bans(()), Bans.read("2+1 3")))
        for function in (exchanged, exchanges):
            self.fails_in_order(function, ("row", (2, 1), given(InvalidRow, NOT_ROWS)), ("rule", UNLIKE, rules),
                                ("other", ODD, rules))
            self.fails_in_order(function, ("row", (61,), given(InvalidRow, NOT_ROWS)), ("rule", UNLIKE, rules),
                                ("other", Caps.read("|2"), rules))

    def test_last_errors(self):
        for function in (exchanged, exchanges):
            for text, other, number in UNLIKE_CAPS:
                for row in ((), (61,), (30, 30), (1,) * 600):
                    rule, more = Caps.read(text), Caps.read(other)
                    self.fails(NotAlike, "given", number, function, row, rule, more)
                    self.fails(NotAlike, "given", number, function, other=rule, rule=more, row=row)
            for row in ((61,), (31, 30), (31, 29, 1)):
                self.fails(TooMany, "given", 61, function, row, UNLIKE, ODD)
            self.fails(TooMany, "given", 62, function, (31, 31), UNLIKE, ODD)
            self.fails(TooMany, "given", 600, function, (1,) * 600, UNLIKE, ODD)
            for row in ((6, 6), (30, 30), (1,) * 60, (1, 1)):
                self.fails(NotLet, "given", row, function, row, UNLIKE, ODD)
            self.fails(NotLet, "given", (2,), function, (2,), ODD, UNLIKE)


if __name__ == "__main__":
    unittest.main()
