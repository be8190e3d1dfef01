import itertools
import random
import unittest

from letparts.alike import alike, first_unlike, matched
from letparts.counts import ban_sums, counts, sieve
from letparts.errors import InvalidNumber, NotAlike, NotARule, NotCaps
from letparts.rules import Bans, Caps, from_rule_text
from tests.alike_rules import ALIKE_BANS, ALIKE_CAPS, ALIKE_KINDS, UNLIKE_BANS, UNLIKE_CAPS, UNLIKE_KINDS
from tests.helpers import NOT_INTEGERS, Case, given, random_bans, random_caps

NOT_RULES = NOT_INTEGERS + (0, "|1", "none", ((1,),), Caps, Bans)
UNLIKE = Caps.read("|1")
ODD = Caps.read("|*0")
FEW = Bans.read("2+1 3")


def first_by_counts(rule, other):
    """The first number up to 400 of which two rules let unequally many; None if there is none."""
    pairs = zip(counts(rule, 400), counts(other, 400))
    return next((number for number, (many, more) in enumerate(pairs) if many != more), None)


class Alike(Case):
    def test_alike_rules(self):
        for texts in ALIKE_CAPS + ALIKE_BANS + ALIKE_KINDS:
            for text, other in (texts, texts[::-1]):
                rule, more = from_rule_text(text), from_rule_text(other)
                self.assertEqual(counts(rule, 400), counts(more, 400), texts)
                self.same(True, alike, rule=rule, other=more)
                self.same(None, first_unlike, rule=rule, other=more)

    def test_unlike_rules(self):
        for one, two, number in UNLIKE_CAPS + UNLIKE_BANS + UNLIKE_KINDS:
            for text, other in ((one, two), (two, one)):
                rule, more = from_rule_text(text), from_rule_text(other)
                self.assertEqual(first_by_counts(rule, more), number, (one, two))
                self.same(False, alike, rule=rule, other=more)
                self.same(number, first_unlike, rule=rule, other=more)

    def test_by_counts(self):
        lots = random.Random(51)
        small = [Bans(bans) for many in range(3) for bans in itertools.combinations(((1,), (1, 1), (2,), (2, 1)), many)]
        rules = small + [random_caps(lots, Caps) for _ in range(8)] + [random_bans(lots, Bans, 5) for _ in range(8)]
        told = [(rule, counts(rule, 300)) for rule in rules]
        for (rule, own), (other, others) in itertools.product(told, repeat=2):
            expected = next((n for n, (many, more) in enumerate(zip(own, others)) if many != more), None)
            self.assertEqual(first_unlike(rule, other), expected, (str(rule), str(other)))
            self.assertEqual(alike(rule, other), expected is None)

    def test_each_number_apart(self):
        every = Caps.read("|*")
        for number in range(1, 25):
            for cap in range(7):
                rule = Caps((None,) * (number - 1) + (cap,), (None,))
                self.assertEqual(first_unlike(rule, every), number * (cap + 1))
                self.assertEqual(first_unlike(Bans(()), rule), number * (cap + 1))

    def test_tails_that_come_again_late(self):
        # Each tail has all caps, so the sums of the bans come again together only after 23520.
        for text, other in (("|*654321", "|*6543210"), ("|0123456", "|0123456*")):
            rule, more = Caps.read(text), Caps.read(other)
            self.assertEqual(first_unlike(rule, more), first_by_counts(rule, more))
            self.assertIsNone(first_unlike(more, Caps(more.tail, more.tail)))

    def test_sieve_and_products(self):
        for text, other in ALIKE_BANS:
            self.assertEqual(sieve(from_rule_text(text)), sieve(from_rule_text(other)))
        for text, other in ALIKE_CAPS:
            self.assertEqual(ban_sums(from_rule_text(text), 400), ban_sums(from_rule_text(other), 400))

    def test_wrong(self):
        faults = given(NotARule, NOT_RULES)
        for function in (alike, first_unlike):
            self.fails_in_order(function, ("rule", UNLIKE, faults), ("other", FEW, faults))


class Matched(Case):
    def check(self, rule, other, number):
        pairs = []
        for total in range(1, number + 1):
            sizes, others = [
                [size for size in range(1, total + 1)
                 if one.cap(size) is not None and size * (one.cap(size) + 1) == total] for one in (rule, other)]
            self.assertEqual(len(sizes), len(others))
            pairs += zip(sizes, others)
        self.same(tuple(pairs), matched, rule=rule, other=other, number=number)

    def test_alike_rules(self):
        for texts in ALIKE_CAPS:
            for text, other in (texts, texts[::-1]):
                for number in (0, 1, 2, 24, 61):
                    self.check(Caps.read(text), Caps.read(other), number)

    def test_greatest_number(self):
        for number in (399, 400):
            self.same(tuple((k, 2 * k) for k in range(1, number // 2 + 1)), matched, rule=UNLIKE, other=ODD,
                      number=number)
        self.check(Caps.read("|12*3"), Caps.read("|12531*53"), 400)
        self.same((), matched, rule=Caps.read("|*"), other=Caps.read("*|*"), number=400)

    def test_not_alike(self):
        for text, other, number in UNLIKE_CAPS:
            for most in (0, 1, 400):
                self.fails(NotAlike, "given", number, matched, Caps.read(text), Caps.read(other), most)
                self.fails(NotAlike, "given", number, matched, Caps.read(other), Caps.read(text), number=most)

    def test_wrong(self):
        faults = given(NotCaps, NOT_RULES + (FEW, Bans(())))
        numbers = given(InvalidNumber, NOT_INTEGERS + (-1, 401, 600, 10 ** 99))
        self.fails_in_order(matched, ("rule", UNLIKE, faults), ("other", ODD, faults), ("number", 9, numbers))
        self.fails(InvalidNumber, "given", 401, matched, UNLIKE, Caps.read("|2"), 401)
        self.fails(NotCaps, "given", None, matched, UNLIKE, None, 401)


if __name__ == "__main__":
    unittest.main()
