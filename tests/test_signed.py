import random
import unittest

from letparts.errors import InvalidNumber, NotARule
from letparts.rules import Bans, Caps
from letparts.signed import signed_count, signed_counts
from tests.helpers import NOT_INTEGERS, Case, given, listed_rows, random_bans, random_caps, slow_lets

EVERY = Caps.read("|*")
UNLIKE = Caps.read("|1")
FEW = Bans.read("2+1 3")


def own_counts(number):
    """How many rows of 0, 1, .. have unlike odd parts: as many as are their own turned rows."""
    found = [1] + [0] * number
    for size in range(1, number + 1, 2):
        for n in range(number, size - 1, -1):
            found[n] += found[n - size]
    return found


def signed_by_sizes(rule, number):
    """The signed counts of a cap rule, size by size."""
    found = [1] + [0] * number
    for size in range(1, number + 1):
        most = number if rule.cap(size) is None else rule.cap(size)
        found = [sum((-1) ** k * found[n - size * k] for k in range(min(most, n // size) + 1))
                 for n in range(number + 1)]
    return tuple(found)


class Signed(Case):
    def test_against_listing(self):
        lots = random.Random(31)
        rules = [random_caps(lots, Caps) for _ in range(30)] + [random_bans(lots, Bans) for _ in range(40)]
        for rule in rules + [EVERY, UNLIKE, FEW, Bans(()), Bans(((1,),)), Caps((), (0,))]:
            expected = tuple(sum((-1) ** len(row) for row in listed_rows(n) if slow_lets(rule, row)) for n in range(13))
            self.same(expected, signed_counts, rule=rule, number=12)
            self.same(expected[11], signed_count, rule=rule, number=11)

    def test_all_rows(self):
        own = own_counts(400)
        expected = tuple((-1) ** n * own[n] for n in range(401))
        self.same(expected, signed_counts, rule=EVERY, number=400)
        self.same(expected, signed_counts, rule=Bans(()), number=400)
        for number in (0, 1, 24, 30, 200, 399, 400):
            self.same(expected[number], signed_count, rule=EVERY, number=number)
            turned = [row for row in listed_rows(min(number, 24))
                      if row == tuple(sum(part >= k for part in row) for k in range(1, (row or (0,))[0] + 1))]
            self.assertEqual(own[min(number, 24)], len(turned))

    def test_great_numbers(self):
        lots = random.Random(32)
        for rule in [random_caps(lots, Caps, 24) for _ in range(5)] + [Caps((), (k,)) for k in range(7)]:
            self.assertEqual(signed_counts(rule, 100), signed_by_sizes(rule, 100))
        every = signed_counts(EVERY, 400)
        for ban in ((40,), (20, 20), (39, 1), (1,) * 40):
            self.assertEqual(signed_count(Bans((ban,)), 400), every[400] - (-1) ** len(ban) * every[360])

    def test_unlike_rows_and_the_fives_numbers(self):
        found = signed_counts(UNLIKE, 400)
        fives = {k * (3 * k + way) // 2: (-1) ** k for k in range(20) for way in (-1, 1)}
        self.assertEqual(found, tuple(fives.get(n, 0) for n in range(401)))

    def test_edges(self):
        for rule in (EVERY, UNLIKE, FEW, Bans(()), Caps((), (0,)), Bans(((1,),))):
            self.same((1,), signed_counts, rule=rule, number=0)
            self.same(1, signed_count, rule=rule, number=0)
            self.assertEqual([len(signed_counts(rule, number)) for number in (1, 399, 400)], [2, 400, 401])
        self.same((1,) + (0,) * 400, signed_counts, rule=Caps((), (0,)), number=400)

    def test_wrong(self):
        for function in (signed_count, signed_counts):
            for right in (FEW, UNLIKE):
                self.fails_in_order(
                    function, ("rule", right, given(NotARule, NOT_INTEGERS + (0, "|1", "none", ((1,),), Caps, Bans))),
                    ("number", 9, given(InvalidNumber, NOT_INTEGERS + (-1, 401, 600, 10 ** 99))))


if __name__ == "__main__":
    unittest.main()
