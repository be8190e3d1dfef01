import itertools
import random
import unittest

from letparts.counts import count, counts, sieve
from letparts.errors import InvalidPairing, InvalidRow, NotBans, NotEven, NotLet, TooMany
from letparts.listed import let_rows, nth_let
from letparts.rules import Bans, Caps, lets
from letparts.walks import is_even, pairings, walk_length, walked, walked_back
from tests.alike_rules import ALIKE_BANS, UNLIKE_BANS
from tests.helpers import NOT_INTEGERS, NOT_ROWS, OTHER_KINDS, Case, given, index, random_bans

NOT_BANS = NOT_INTEGERS + (0, "|1", "none", ((1,),), Caps, Bans, Caps.read("|1"), Caps.read("|*"))
FEW = Bans.read("2+1 3")
SECOND = Bans.read("1+1+1 3")
UNLIKE_BANS_OF_SIX = ("1+1 2+2 3+3 4+4 5+5 6+6", "10 12 2 4 6 8")
# Pairs of rules, the bans of each in any order, that have even pairings.
EVEN_TEXTS = (
    ("none", "none"), ("2", "2"), ("3", "1+1+1"), ("40", "39+1"), ("2+1 3", "1+1+1 3"), ("2+1 3", "2+1 3"),
    ("1+1 2+2 3+3", "2 4 6"), ("1+1 1+1+1 2", "1+1 1+1+1 2"), ("2 2+2 3 4 6", "1+1+1 2 2+2 4 6"),
    ("2 2+1 2+1+1+1 4+1 5+1", "1+1+1+1+1+1 2 2+1 2+2+1 4+1"),
    ("1+1+1+1 2+1 2+2+1 4 6+2+1", "1+1+1 1+1+1+1+1 3+1 4 6+1+1+1"),
    ("1 2+2+2 3+3 4+1+1+1+1 7", "1 2+2+2 4+1+1+1+1 6 7"),
    ("1+1 2+1+1+1+1+1 3+1+1 4+1 6+1", "1+1 2+2+1 3+1+1 4+1+1+1 6+1"),
    ("2+1 3+3 4+1+1+1+1+1 4+2+1+1 5 7", "2+1 3+2+1+1+1 3+3+1+1+1 5 6 7"), UNLIKE_BANS_OF_SIX,
    ("2+2 2+2+1+1 2+2+1+1+1 2+2+1+1+1+1 4", "2+1+1 2+1+1+1+1 2+1+1+1+1+1 2+1+1+1+1+1+1 4"))
# Rules of equally many bans without an even pairing; those of the first two lots are alike all the same, those of
# the third one have only a choice of all three bans against them.
UNEVEN_TEXTS = (
    ("1+1+1+1 4+1 4+2", "2+2 3+2 3+3"), ("2+1+1+1 2+2 3+1+1 5+2", "1+1+1+1+1 2+1+1 3+1+1+1+1 5"),
    ("6+5+1 5+4+2+1 6+4+2", "6+5+1 6+4+2 6+3+3"), ("2+1 3", "2 3"), ("3", "4"), ("2+1 2+2", "2+1 4"),
    ("1+1 1+1+1 2", "1+1 2 3"), ("1 1+1", "1 2"))


def rule_of(text):
    """The ban rule with these bans."""
    bans = text.split(" ") if text != "none" else []
    return Bans(tuple(sorted(tuple(map(int, ban.split("+"))) for ban in bans)))


EVEN = [(rule_of(one), rule_of(two)) for texts in EVEN_TEXTS for one, two in (texts, texts[::-1])]
UNEVEN = [(rule_of(one), rule_of(two)) for texts in UNEVEN_TEXTS for one, two in (texts, texts[::-1])]


def slow_join(bans):
    """The join of some bans."""
    sizes = {size for ban in bans for size in ban}
    return sorted(size for size in sizes for _ in range(max(ban.count(size) for ban in bans)))


def choices(many):
    """All choices of so many indexes."""
    return [choice for few in range(many + 1) for choice in itertools.combinations(range(many), few)]


def slow_is_even(rule, other, pairing):
    """Whether the joins of all choices have the same sums as those of the paired bans."""
    paired = [other.bans[at] for at in pairing]
    return all(sum(slow_join([rule.bans[at] for at in choice])) == sum(slow_join([paired[at] for at in choice]))
               for choice in choices(len(pairing)))


def slow_pairings(rule, other):
    """All even pairings, ascending, by trying all."""
    many = len(rule.bans)
    if len(other.bans) != many:
        return ()
    every = itertools.permutations(range(many))
    return tuple(sorted(pairing for pairing in every if slow_is_even(rule, other, pairing)))


class Walker:
    """One who stands at a row with a choice, on the first side or on the second one, and walks as told."""

    def __init__(self, row, rule, other, pairing, side=0):
        self.row, self.choice, self.side, self.turnings = sorted(row), set(), side, 0
        self.sides = (rule.bans, tuple(other.bans[at] for at in pairing))

    def standing(self):
        return [at for at, ban in enumerate(self.sides[self.side])
                if all(self.row.count(size) >= ban.count(size) for size in ban)]

    def turn(self):
        self.choice ^= {min(self.standing())}
        self.turnings += 1

    def cross(self):
        for size in slow_join([self.sides[self.side][at] for at in self.choice]):
            self.row.remove(size)
        self.side = 1 - self.side
        self.row = sorted(self.row + slow_join([self.sides[self.side][at] for at in self.choice]))

    def walk(self):
        """To the end: the row, how many turnings, and whether the choice is empty there."""
        self.cross()
        while self.standing():
            self.turn()
            self.cross()
            self.turn()
            self.cross()
        return tuple(reversed(self.row)), self.turnings, not self.choice


class Pairings(Case):
    def test_by_trying_all(self):
        for rule, other in EVEN + UNEVEN + [(rule, rule) for rule, _ in EVEN]:
            expected = slow_pairings(rule, other)
            self.same(expected, pairings, rule=rule, other=other)
            for pairing in itertools.islice(itertools.permutations(range(len(rule.bans))), 0, None, 7):
                self.assertIs(is_even(rule, other, pairing), pairing in expected, (str(rule), str(other), pairing))
            for pairing in expected[:6]:
                self.same(True, is_even, rule=rule, other=other, pairing=pairing)

    def test_random_rules(self):
        lots = random.Random(71)
        found = 0
        for _ in range(400):
            rule, other = random_bans(lots, Bans, 4), random_bans(lots, Bans, 4)
            expected = slow_pairings(rule, other)
            self.assertEqual(pairings(rule, other), expected)
            found += len(expected)
        self.assertGreater(found, 10)

    def test_there_are_some(self):
        for rule, other in EVEN:
            self.assertTrue(pairings(rule, other), (str(rule), str(other)))
        for rule, other in UNEVEN:
            self.assertEqual(pairings(rule, other), (), (str(rule), str(other)))

    def test_even_pairings_have_like_sieves(self):
        for rule, other in EVEN:
            self.assertEqual(sieve(rule), sieve(other))
            self.assertEqual(counts(rule, 100), counts(other, 100))
        self.assertEqual([sieve(rule) == sieve(other) for rule, other in UNEVEN[:6:2]], [True, True, False])
        for text, other, _ in UNLIKE_BANS:
            self.same((), pairings, rule=Bans.read(text), other=Bans.read(other))

    def test_edges(self):
        none = Bans(())
        self.same(((),), pairings, rule=none, other=none)
        self.same(True, is_even, rule=none, other=none, pairing=())
        self.same(((0, 1), (1, 0)), pairings, rule=FEW, other=SECOND)
        self.same(True, is_even, rule=FEW, other=FEW, pairing=(1, 0))
        self.same((), pairings, rule=none, other=FEW)
        self.same((), pairings, rule=FEW, other=Bans(((3,),)))
        self.same(False, is_even, rule=Bans.read("2+1 3"), other=Bans.read("1+1 3"), pairing=(1, 0))
        # Six bans of one sum that share no size may be paired in any way.
        six = rule_of("12 11+1 10+2 9+3 8+4 7+5")
        self.same(tuple(itertools.permutations(range(6))), pairings, rule=six, other=six)
        apart = rule_of("40 39+1 38+2 37+3 36+4 35+5")
        self.assertEqual(len(pairings(apart, rule_of("40 34+6 33+7 32+8 31+9 30+10"))), 720)
        self.assertEqual(pairings(apart, rule_of("40 39+1 38+1+1 37+3 36+4 35+5")), ())
        # A needless ban is paired like any other one.
        self.same(((0, 1, 2),), pairings, rule=Bans.read("1+1 1+1+1 2"), other=Bans.read("1+1 1+1+1 2"))
        self.same((), pairings, rule=Bans.read("1 1+1"), other=Bans.read("1 2"))


class Walks(Case):
    def test_one_to_one_and_back(self):
        for rule, other in EVEN:
            for pairing in pairings(rule, other):
                for number in (0, 1, 2, 3, 5, 8, 12):
                    rows = let_rows(rule, number)
                    ends = [walked(row, rule, other, pairing) for row in rows]
                    self.assertEqual(tuple(sorted(ends)), let_rows(other, number))
                    for row, end in zip(rows, ends):
                        self.assertEqual(walked_back(end, rule, other, pairing), row)

    def test_step_by_step(self):
        longest = 0
        for rule, other in EVEN:
            for pairing in pairings(rule, other):
                for row in let_rows(rule, 6) + let_rows(rule, 11):
                    end, turnings, empty = Walker(row, rule, other, pairing).walk()
                    self.assertTrue(empty)
                    self.same(end, walked, row=row, rule=rule, other=other, pairing=pairing)
                    self.same(turnings, walk_length, row=row, rule=rule, other=other, pairing=pairing)
                    longest = max(longest, turnings)
                for row in let_rows(other, 10):
                    back, _, empty = Walker(row, rule, other, pairing, side=1).walk()
                    self.assertTrue(empty)
                    self.same(back, walked_back, row=row, rule=rule, other=other, pairing=pairing)
        self.assertGreater(longest, 20)

    def test_sums_up_to_thirty(self):
        lots = random.Random(72)
        for rule, other in EVEN:
            for pairing in pairings(rule, other)[:2]:
                for number in (29, 30):
                    many = count(rule, number)
                    for at in sorted({lots.randrange(many) for _ in range(3)} | {0, many - 1} if many else ()):
                        row = nth_let(rule, number, at)
                        end, turnings, empty = Walker(row, rule, other, pairing).walk()
                        self.assertTrue(empty and lets(other, end))
                        self.assertEqual(walked(row, rule, other, pairing), end)
                        self.assertEqual(walk_length(row, rule, other, pairing), turnings)
                        self.assertEqual((sum(end), walked_back(end, rule, other, pairing)), (number, row))

    def test_told_rows(self):
        ones = (1,) * 6
        self.same((2, 2, 1, 1), walked, row=ones, rule=FEW, other=SECOND, pairing=(0, 1))
        self.same(4, walk_length, row=ones, rule=FEW, other=SECOND, pairing=(0, 1))
        self.same(12, walk_length, row=ones, rule=FEW, other=SECOND, pairing=(1, 0))
        self.same(ones, walked_back, row=(2, 2, 1, 1), rule=FEW, other=SECOND, pairing=(0, 1))
        none = Bans(())
        for row in ((), (5, 5, 1), (30,), (1,) * 30):
            for function in (walked, walked_back):
                self.same(row, function, row=row, rule=none, other=none, pairing=())
            self.same(0, walk_length, row=row, rule=none, other=none, pairing=())
        for function in (walked, walked_back):
            self.same((), function, row=(), rule=FEW, other=SECOND, pairing=(1, 0))
            self.same((2, 2), function, row=(2, 2), rule=FEW, other=SECOND, pairing=(0, 1))
        self.same(0, walk_length, row=(), rule=FEW, other=SECOND, pairing=(1, 0))
        self.same(0, walk_length, row=(6, 4, 2, 2), rule=FEW, other=FEW, pairing=(1, 0))


class Wrong(Case):
    def no_pairings(self):
        """What is no pairing of two bans with two others, with its index."""
        kinds = [(value, None) for value in OTHER_KINDS + (0, 1, "01", [0, 1], range(2), {0: 1, 1: 0})]
        kinds += [((), 0), ((0,), 1), ((1,), 1), ((0, 1, 2), 2), ((1, 0, 1), 2), ((0, 1, None), 2), ((0, 1, True), 2)]
        kinds += [((value, 0), 0) for value in NOT_INTEGERS + (-1, 2, 10 ** 99)]
        kinds += [((1, value), 1) for value in NOT_INTEGERS + (-1, 2, 1, -2, 10 ** 99)]
        return kinds + [((0, 0, 0), 1), ((2,), 0), ((1, 1, 5), 1), ((0, 5, 0), 1)]

    def test_in_order(self):
        rules = given(NotBans, NOT_BANS)
        rows = given(InvalidRow, NOT_ROWS)
        wrong = index(InvalidPairing, *self.no_pairings())
        self.fails_in_order(pairings, ("rule", FEW, rules), ("other", SECOND, rules))
        self.fails_in_order(is_even, ("rule", FEW, rules), ("other", SECOND, rules), ("pairing", (0, 1), wrong))
        for function in (walked, walked_back, walk_length):
            self.fails_in_order(function, ("row", (1, 1), rows), ("rule", FEW, rules), ("other", SECOND, rules),
                                ("pairing", (0, 1), wrong))
            # What is told with "last" stands behind a wrong pairing.
            self.fails_in_order(function, ("row", (31,), rows), ("rule", FEW, rules),
                                ("other", Bans.read("2 3"), rules), ("pairing", (0, 1), wrong))

    def test_rules_of_unequally_many_bans(self):
        for rule, other in ((FEW, Bans(())), (Bans(()), FEW), (FEW, Bans(((3,),))), (Bans(((3,),)), SECOND)):
            for pairing in ((), (0,), (0, 1), (1, 0), (True,), (5, 5, 5), None, [0]):
                self.fails(InvalidPairing, "index", None, is_even, rule, other, pairing)
                for function in (walked, walked_back, walk_length):
                    self.fails(InvalidPairing, "index", None, function, (31,), rule, other, pairing)
                    self.fails(InvalidPairing, "index", None, function, pairing=pairing, other=other, rule=rule, row=())

    def test_all_lengths(self):
        six = rule_of(UNLIKE_BANS_OF_SIX[0])
        for many in range(6):
            self.fails(InvalidPairing, "index", many, is_even, six, six, tuple(range(many)))
        self.fails(InvalidPairing, "index", 6, is_even, six, six, (0, 1, 2, 3, 4, 5, 6))
        self.fails(InvalidPairing, "index", 6, is_even, six, six, (5, 4, 3, 2, 1, 0, 0))
        self.fails(InvalidPairing, "index", 0, is_even, Bans(()), Bans(()), (0,))
        self.fails(InvalidPairing, "index", None, is_even, Bans(()), Bans(()), [])

    def check_not_even(self, function, row, rule, other, pairing):
        with self.assertRaises(NotEven) as caught:
            function(row, rule, other, pairing)
        choice = caught.exception.given
        self.assertIs(type(choice), tuple)
        self.assertIn(choice, choices(len(pairing)))
        self.assertNotEqual(sum(slow_join([rule.bans[at] for at in choice])),
                            sum(slow_join([other.bans[pairing[at]] for at in choice])))
        self.fails(NotEven, "given", choice, function, pairing=pairing, row=row, other=other, rule=rule)

    def test_not_even(self):
        pairs = EVEN + UNEVEN + [(Bans.read(text), Bans.read(other)) for text, other, _ in UNLIKE_BANS]
        for rule, other in pairs:
            if len(rule.bans) == len(other.bans):
                for pairing in list(itertools.permutations(range(len(rule.bans))))[:8]:
                    if not slow_is_even(rule, other, pairing):
                        for function in (walked, walked_back, walk_length):
                            for row in ((), (31,), (3, 3), (1,) * 600, (40, 39, 1)):
                                self.check_not_even(function, row, rule, other, pairing)

    def test_sums_above_thirty(self):
        for rule, other in ((FEW, SECOND), (Bans(()), Bans(())), (Bans(((40,),)), Bans(((39, 1),)))):
            for function in (walked, walked_back, walk_length):
                for row in ((31,), (30, 1), (1,) * 31):
                    self.fails(TooMany, "given", 31, function, row, rule, other, tuple(range(len(rule.bans))))
                self.fails(TooMany, "given", 600, function, (300, 300), rule, other, tuple(range(len(rule.bans))))
                function((30,), rule, other, tuple(range(len(rule.bans))))
        # A row that is not let is told to be so only if its sum is not above 30.
        self.fails(TooMany, "given", 31, walked, (3,) * 10 + (1,), FEW, SECOND, (0, 1))

    def test_not_let(self):
        for function in (walked, walk_length):
            for row in ((3,), (2, 1), (3,) * 10, (20, 2, 2, 2, 2, 1, 1)):
                self.fails(NotLet, "given", row, function, row, FEW, SECOND, (0, 1))
            function((1, 1, 1), FEW, SECOND, (0, 1))
        for row in ((3,), (1, 1, 1), (3,) * 10, (1,) * 30):
            self.fails(NotLet, "given", row, walked_back, row, FEW, SECOND, (1, 0))
        self.assertEqual(walked_back((2, 1), FEW, SECOND, (0, 1)), (1, 1, 1))
        self.fails(NotLet, "given", (2, 1), walked, row=(2, 1), rule=FEW, other=SECOND, pairing=(0, 1))


class AlikeWithoutPairings(Case):
    def test_some_alike_rules_have_no_even_pairing(self):
        found = [pairings(Bans.read(text), Bans.read(other)) for text, other in ALIKE_BANS]
        self.assertIn((), found)
        self.assertIn(((),), found)
        for (text, other), told in zip(ALIKE_BANS, found):
            self.assertEqual(told, slow_pairings(Bans.read(text), Bans.read(other)))


if __name__ == "__main__":
    unittest.main()
