import itertools
import random
import unittest

from letparts.counts import ban_sums, count, count_all, counts, divisor_sums, excesses, sieve
from letparts.errors import InvalidNumber, NotARule, NotBans, NotCaps
from letparts.rules import Bans, Caps
from tests.helpers import NOT_INTEGERS, Case, given, listed_rows, random_bans, random_caps, slow_lets

NOT_NUMBERS = NOT_INTEGERS + (-1, 401, 600, 10 ** 99)
NOT_RULES = NOT_INTEGERS + (0, "|1", "none", ((1,),), Caps, Bans)
EVERY = Caps.read("|*")
UNLIKE = Caps.read("|1")
ODD = Caps.read("|*0")
FEW = Bans.read("2+1 3")
P_400 = 6727090051741041926


def counts_by_sizes(rule, number):
    """How many rows of 0, 1, .. a cap rule lets, size by size."""
    found = [1] + [0] * number
    for size in range(1, number + 1):
        cap = rule.cap(size)
        most = number if cap is None else cap
        found = [sum(found[n - size * k] for k in range(min(most, n // size) + 1)) for n in range(number + 1)]
    return tuple(found)


def counts_of_all(number):
    """How many rows 0, 1, .. have, size by size."""
    found = [1] + [0] * number
    for size in range(1, number + 1):
        for n in range(size, number + 1):
            found[n] += found[n - size]
    return tuple(found)


class Counts(Case):
    def test_all(self):
        every = counts_of_all(400)
        self.assertEqual(every[400], P_400)
        for number in (0, 1, 2, 3, 4, 5, 6, 7, 9, 12, 24, 100, 200, 399, 400):
            self.same(every[number], count_all, number=number)
        self.same(every, counts, rule=EVERY, number=400)
        self.same(every, counts, rule=Bans(()), number=400)

    def test_fives(self):
        for n in range(1, 120):
            total = 0
            for k in range(1, 20):
                for five in (k * (3 * k - 1) // 2, k * (3 * k + 1) // 2):
                    if five <= n:
                        total += count_all(n - five) * (1 if k % 2 else -1)
            self.assertEqual(count_all(n), total)

    def test_against_listing(self):
        lots = random.Random(11)
        rules = [random_caps(lots, Caps) for _ in range(30)] + [random_bans(lots, Bans) for _ in range(60)]
        for rule in rules + [EVERY, UNLIKE, ODD, FEW, Bans(()), Bans(((1,),)), Caps((), (0,))]:
            expected = tuple(sum(slow_lets(rule, row) for row in listed_rows(n)) for n in range(15))
            self.same(expected, counts, rule=rule, number=14)
            self.same(expected[11], count, rule=rule, number=11)

    def test_great_numbers(self):
        lots = random.Random(12)
        for _ in range(5):
            rule = random_caps(lots, Caps, 24)
            expected = counts_by_sizes(rule, 150)
            self.assertEqual(counts(rule, 150), expected)
        self.same(counts(ODD, 400), counts, rule=UNLIKE, number=400)
        self.same(counts(ODD, 400)[400], count, rule=UNLIKE, number=400)
        self.assertEqual(counts(UNLIKE, 400)[:10], (1, 1, 1, 2, 2, 3, 4, 5, 6, 8))
        self.same(counts_of_all(400)[400] - counts_of_all(400)[360], count, rule=Bans(((40,),)), number=400)

    def test_edges(self):
        for rule in (EVERY, UNLIKE, FEW, Bans(()), Caps((), (0,)), Bans(((1,),))):
            self.same((1,), counts, rule=rule, number=0)
            self.same(1, count, rule=rule, number=0)
            self.assertEqual([len(counts(rule, number)) for number in (1, 24, 399, 400)], [2, 25, 400, 401])
        self.same((1,) + (0,) * 400, counts, rule=Caps((), (0,)), number=400)
        self.same((1, 0, 1, 0, 1, 0, 0), counts, rule=Caps.read("02|0"), number=6)

    def test_wrong(self):
        for function in (count, counts):
            self.fails_in_order(function, ("rule", UNLIKE, given(NotARule, NOT_RULES)),
                                ("number", 9, given(InvalidNumber, NOT_NUMBERS)))
            self.fails_in_order(function, ("rule", FEW, given(NotARule, NOT_RULES)),
                                ("number", 9, given(InvalidNumber, NOT_NUMBERS)))
        self.fails_in_order(count_all, ("number", 9, given(InvalidNumber, NOT_NUMBERS)))


class Sieves(Case):
    def test_examples(self):
        for text, expected in (("none", ((0, 1),)), ("1", ((0, 1), (1, -1))), ("40", ((0, 1), (40, -1))),
                               ("1 1+1", ((0, 1), (1, -1))), ("2+1 3", ((0, 1), (3, -2), (6, 1))),
                               ("1+1 2", ((0, 1), (2, -2), (4, 1)))):
            self.same(expected, sieve, rule=Bans.read(text))

    def test_by_choices(self):
        lots = random.Random(13)
        for _ in range(60):
            rule = random_bans(lots, Bans)
            times = {}
            for many in range(len(rule.bans) + 1):
                for choice in itertools.combinations(rule.bans, many):
                    sizes = {size for ban in choice for size in ban}
                    total = sum(size * max(ban.count(size) for ban in choice) for size in sizes)
                    times[total] = times.get(total, 0) + (-1) ** many
            self.same(tuple((m, times[m]) for m in sorted(times) if times[m]), sieve, rule=rule)

    def test_counts_by_sieve(self):
        lots = random.Random(14)
        every = counts_of_all(100)
        for _ in range(30):
            rule = random_bans(lots, Bans, 12)
            for n in (0, 1, 5, 30, 100):
                self.assertEqual(count(rule, n), sum(times * every[n - m] for m, times in sieve(rule) if m <= n))

    def test_six_great_bans(self):
        rule = Bans(tuple(sorted((size,) * (40 // size) for size in (2, 4, 5, 8, 10, 20))))
        self.same(((0, 1), (40, -6), (80, 15), (120, -20), (160, 15), (200, -6), (240, 1)), sieve, rule=rule)

    def test_wrong(self):
        self.fails_in_order(sieve, ("rule", FEW, given(NotBans, NOT_RULES + (UNLIKE, EVERY))))


class Excesses(Case):
    def test_against_bans(self):
        lots = random.Random(15)
        for _ in range(40):
            rule = random_caps(lots, Caps, 24)
            sums = [0] * 121
            for size in range(1, 121):
                cap = rule.cap(size)
                if cap is not None and size * (cap + 1) <= 120:
                    sums[size * (cap + 1)] += 1
            expected = [1 - many for many in sums]
            self.same(tuple(sums[1:]), ban_sums, rule=rule, number=120)
            self.same(tuple(expected[1:]), excesses, rule=rule, number=120)
            self.same(tuple(sum(m * expected[m] for m in range(1, k + 1) if k % m == 0) for k in range(1, 121)),
                      divisor_sums, rule=rule, number=120)

    def test_counts_by_divisor_sums(self):
        lots = random.Random(16)
        for _ in range(10):
            rule = random_caps(lots, Caps, 12)
            found = counts_by_sizes(rule, 60)
            told = divisor_sums(rule, 60)
            for n in range(1, 61):
                self.assertEqual(n * found[n], sum(told[k - 1] * found[n - k] for k in range(1, n + 1)))

    def test_edges(self):
        for function in (ban_sums, excesses, divisor_sums):
            for rule in (EVERY, UNLIKE, ODD):
                self.same((), function, rule=rule, number=0)
                self.assertEqual([len(function(rule, number)) for number in (1, 24, 200, 399, 400)],
                                 [1, 24, 200, 399, 400])
        self.same((0,) * 400, ban_sums, rule=EVERY, number=400)
        self.same((1,) * 400, ban_sums, rule=Caps((), (0,)), number=400)
        self.same((1,) * 400, excesses, rule=EVERY, number=400)
        self.same((0,) * 400, divisor_sums, rule=Caps((), (0,)), number=400)
        self.same((1, 3, 4, 7, 6, 12, 8, 15, 13, 18, 12, 28), divisor_sums, rule=EVERY, number=12)
        self.same((0,) * 6 + (1,) + (0,) * 6 + (1,), ban_sums, rule=Caps((), (6,)), number=14)
        self.same((1, 0, 0, 1, 0, 1), ban_sums, rule=Caps.read("01|1*"), number=6)

    def test_wrong(self):
        for function in (ban_sums, excesses, divisor_sums):
            self.fails_in_order(function, ("rule", UNLIKE, given(NotCaps, NOT_RULES + (FEW, Bans(())))),
                                ("number", 9, given(InvalidNumber, NOT_NUMBERS)))


if __name__ == "__main__":
    unittest.main()
