import itertools
import random
import unittest

from letparts.asking import all_rules, count_rules, next_counts
from letparts.counts import counts, excesses
from letparts.errors import InvalidCounts, InvalidNumber, NoFit, NotATally, NotCaps, TooMany
from letparts.giving import can_be_given, given_or_crowd
from letparts.rules import Bans, Caps
from letparts.tallies import Tally, caps_of, fits, some_rule, told_excesses
from tests.helpers import ANY, NOT_INTEGERS, Case, given, index, random_caps

NOT_TALLIES = NOT_INTEGERS + (0, 1, -1, "|1", (1, 1, 2, 2), [1, 1], Caps((), (1,)), Bans(()), Tally)
NOT_CAPS = NOT_INTEGERS + (0, 2, -1, "|1", "none", (2, 1), ((), (1,)), Bans(()), Bans(((2, 1),)), Caps)


def heads(length):
    """All tuples of caps whose bans have sums up to the length, None for a size without such a ban."""
    return itertools.product(*[
        [None] + [cap for cap in range(7) if size * (cap + 1) <= length] for size in range(1, length + 1)])


def counts_of(head):
    """How many rows of 1, 2, .. these caps let, size by size."""
    length = len(head)
    found = [1] + [0] * length
    for size, cap in enumerate(head, start=1):
        most = length if cap is None else cap
        found = [sum(found[at - size * times] for times in range(most + 1) if size * times <= at)
                 for at in range(length + 1)]
    return tuple(found[1:])


def by_tally(length):
    """The heads that let so many rows of 1, 2, .. as each tally tells."""
    found = {}
    for head in heads(length):
        found.setdefault(counts_of(head), []).append(head)
    return found


def asked_by(tally):
    """How many bans must have the sum 1, 2, .. , the excesses being found one by one from the product of powers."""
    found = []
    series = [1] + [0] * len(tally)
    for number, many in enumerate(tally, start=1):
        excess = many - series[number]
        found.append(1 - excess)
        for _ in range(abs(excess)):
            # The factor 1 - q ** number, taken in or out.
            if excess > 0:
                for at in range(number, len(series)):
                    series[at] += series[at - number]
            else:
                for at in range(len(series) - 1, number - 1, -1):
                    series[at] -= series[at - number]
    return found


def sizes_for(numbers):
    """The sizes that can be given to some of these numbers."""
    return {size for number in numbers for size in range(1, number + 1) if number % size == 0 and number // size <= 7}


def is_crowd(asked, numbers):
    """Whether numbers show that sizes cannot be given as asked."""
    if any(asked[number - 1] < 0 for number in numbers):
        return len(numbers) == 1
    return sum(asked[number - 1] for number in numbers) > len(sizes_for(numbers))


def some_crowd(asked):
    """Whether there is any crowd, by looking at all lots of numbers."""
    if min(asked) < 0:
        return True
    numbers = [number for number in range(1, len(asked) + 1) if asked[number - 1]]
    return any(is_crowd(asked, lot) for many in range(len(numbers) + 1)
               for lot in itertools.combinations(numbers, many))


def many_bent(seed, longest, rounds):
    """Tallies of drawn cap rules, cut short, and some of them bent."""
    lots = random.Random(seed)
    for _ in range(rounds):
        rule = random_caps(lots, Caps, 24)
        tally = list(counts(rule, lots.randint(1, longest))[1:])
        if lots.random() < 0.6:
            at = lots.randrange(len(tally))
            tally[at] = max(0, tally[at] + lots.choice((-2, -1, -1, 1, 1, 2, 5)))
        yield tuple(tally), rule


class Tallies(Case):
    def test_objects(self):
        tally = Tally((1, 1, 2, 2))
        self.assertEqual(tally.counts, (1, 1, 2, 2))
        self.assertEqual(Tally(counts=(0,)).counts, (0,))
        self.assertEqual(Tally((10 ** 99,) * 24).counts, (10 ** 99,) * 24)
        self.assertTrue(tally == Tally((1, 1, 2, 2)))
        self.assertFalse(tally != Tally((1, 1, 2, 2)))
        for other in (Tally((1, 1, 2)), Tally((1, 1, 2, 3)), Tally((1, 1, 2, 2, 0)), (1, 1, 2, 2), None, 1, "1", ANY,
                      Caps((1, 1, 2, 2), (None,)), [1, 1, 2, 2]):
            self.assertFalse(tally == other)
            self.assertTrue(tally != other)
        self.assertTrue(Tally((0,)))

    def test_wrong_counts(self):
        kinds = [(value, None) for value in NOT_INTEGERS if not isinstance(value, tuple)]
        kinds += [(1, None), ([1, 1], None), ((), None), ("11", None), ((1,) * 25, 24), ((1,) * 24 + (-1, -1), 24)]
        kinds += [((value,), 0) for value in NOT_INTEGERS + (-1, -10 ** 99)]
        kinds += [((1, 0, value, -1), 2) for value in NOT_INTEGERS + (-1,)]
        kinds += [((1,) * 23 + (-1, 1), 23)]
        self.fails_in_order(Tally, ("counts", (1, 2), index(InvalidCounts, *kinds)))

    def test_all_ways(self):
        lots = random.Random(121)
        for length in range(1, 8):
            known = by_tally(length)
            longer = {}
            for tally in by_tally(length + 1):
                longer.setdefault(tally[:length], set()).add(tally[length])
            for tally, found in known.items():
                self.check(tally, found, longer[tally])
            for _ in range(60):
                tally = tuple(lots.randint(0, most) for most in (2, 2, 3, 4, 5, 6, 7)[:length])
                self.check(tally, known.get(tally, []), longer.get(tally))

    def check(self, tally, found, following):
        """What is told of a tally, against all heads that fit."""
        made = Tally(tally)
        rule = some_rule(made)
        self.assertEqual(count_rules(made), len(found))
        signs = {None: "*"}
        texts = sorted("".join(signs.get(cap, str(cap)) for cap in head) + "|*" for head in found)
        if len(found) <= 200:
            self.assertEqual([str(one) for one in all_rules(made)], texts)
        else:
            self.fails(TooMany, "given", len(found), all_rules, made)
        if not found:
            self.assertIsNone(rule)
            self.fails(NoFit, None, None, next_counts, made)
            for size in range(1, len(tally) + 1):
                self.fails(NoFit, None, None, caps_of, made, size)
            return
        self.assertEqual(rule.tail, (None,))
        self.assertIn((rule.head + (None,) * len(tally))[:len(tally)], found)
        self.assertEqual(next_counts(made), tuple(sorted(following)))
        for size in range(1, len(tally) + 1):
            caps = {head[size - 1] for head in found}
            self.assertEqual(caps_of(made, size),
                             tuple(sorted(caps - {None})) + ((None,) if None in caps else ()))

    def test_drawn_rules(self):
        for tally, rule in many_bent(122, 24, 250):
            made = Tally(tally)
            asked = asked_by(tally)
            self.assertEqual(told_excesses(made), tuple(1 - many for many in asked))
            is_right = counts(rule, len(tally))[1:] == tally
            self.assertIs(fits(made, rule), is_right)
            found = some_rule(made)
            self.assertEqual(found, some_rule(Tally(tally)))
            if is_right:
                self.assertEqual(told_excesses(made), excesses(rule, len(tally)))
                self.assertIsNotNone(found)
            if found is None:
                self.assertTrue(min(asked) < 0 or len(asked) > 12 or some_crowd(asked))
                self.fails(NoFit, None, None, next_counts, made)
            else:
                self.assertTrue(fits(made, found))
                self.assertEqual((found.tail, counts(found, len(tally))[1:]), ((None,), tally))
                self.assertFalse(len(asked) <= 12 and some_crowd(asked))

    def test_sizes_given_or_a_crowd(self):
        lots = random.Random(125)
        for length in list(range(1, 13)) * 12 + [24] * 40:
            asked = tuple(lots.choice((0, 0, 0, 1, 1, 1, 2, 3, -1 if lots.random() < 0.1 else 0)) for _ in range(length))
            kept_back = lots.choice((None, lots.randint(1, length)))
            holders, crowd = given_or_crowd(asked, kept_back)
            self.assertIs(can_be_given(asked, kept_back), holders is not None)
            if holders is None:
                self.assertEqual(list(crowd), sorted(set(crowd)))
                self.assertTrue(kept_back is not None or is_crowd(asked, crowd))
                many = sum(asked[number - 1] for number in crowd)
                self.assertTrue(many < 0 or many > len(sizes_for(crowd) - {kept_back}))
            else:
                self.assertEqual(crowd, ())
                self.assertNotIn(kept_back, holders)
                self.assertTrue(all(size in sizes_for([number]) for size, number in holders.items()))
                self.assertEqual(asked, tuple(
                    list(holders.values()).count(number) for number in range(1, length + 1)))

    def test_caps_of_drawn_rules(self):
        for tally, rule in many_bent(123, 24, 120):
            made = Tally(tally)
            if not fits(made, rule):
                continue
            for size in range(1, len(tally) + 1):
                found = caps_of(made, size)
                cap = rule.cap(size)
                self.assertIn(cap if cap is not None and size * (cap + 1) <= len(tally) else None, found)
                told = [cap for cap in found if cap is not None]
                self.assertEqual(list(found), sorted(set(told)) + [None] * (None in found))
                self.assertTrue(all(0 <= cap <= 6 and size * (cap + 1) <= len(tally) for cap in told))
            if len(tally) < 24:
                self.assertIn(counts(rule, len(tally) + 1)[-1], next_counts(made))

    def test_told_tallies(self):
        seen = Tally((1, 1, 2, 2))
        self.same((1, 0, 1, 0), told_excesses, tally=seen)
        self.same(True, fits, tally=seen, rule=Caps((), (1,)))
        self.same(False, fits, tally=Tally((1, 1, 2, 3)), rule=Caps((), (1,)))
        self.same(False, fits, tally=Tally((2, 1)), rule=Caps((), (1,)))
        self.same((1, 3, None), caps_of, tally=seen, size=1)
        self.same((0, 1, None), caps_of, tally=seen, size=2)
        self.same((None,), caps_of, tally=seen, size=3)
        self.same((0, None), caps_of, tally=seen, size=4)
        self.same(None, some_rule, tally=Tally((2,)))
        self.same((2,), told_excesses, tally=Tally((2,)))
        self.same((1,), told_excesses, tally=Tally((1,)))
        self.same((0,), caps_of, tally=Tally((0,)), size=1)
        self.same((0,) * 24, told_excesses, tally=Tally((0,) * 24))
        self.same(True, fits, tally=Tally((0,) * 24), rule=Caps((), (0,)))
        self.same(True, fits, tally=Tally((0,) * 23 + (1,)), rule=Caps((0,) * 23, (None,)))
        self.same(False, fits, tally=Tally((0,) * 23 + (2,)), rule=Caps((0,) * 23, (None,)))
        self.same((0,), caps_of, tally=Tally((0,) * 24), size=24)
        self.same(None, some_rule, tally=Tally((10 ** 99,) * 24))
        self.assertEqual(str(some_rule(Tally((1, 2, 3, 5, 7)))).strip("*"), "|")

    def test_great_numbers_asked(self):
        # All rows of 1 to 23, and then too few of 24.
        tally = counts(Caps((), (None,)), 24)[1:]
        for less in (1, 4, 5, 1575):
            bent = Tally(tally[:23] + (tally[23] - less,))
            self.assertEqual(told_excesses(bent), (1,) * 23 + (1 - less,))
            # 24, 12, 8, 6 and 4 can be given to 24.
            self.assertIs(some_rule(bent) is None, less > 5)
        self.assertEqual(told_excesses(Tally((1, 10 ** 90))), (1, 10 ** 90 - 1))

    def test_wrong(self):
        tally = Tally((1, 1, 2, 2))
        bad = Tally((2,))
        self.fails_in_order(told_excesses, ("tally", tally, given(NotATally, NOT_TALLIES)))
        self.fails_in_order(some_rule, ("tally", tally, given(NotATally, NOT_TALLIES)))
        self.fails_in_order(
            fits, ("tally", tally, given(NotATally, NOT_TALLIES)), ("rule", Caps((), (1,)), given(NotCaps, NOT_CAPS)))
        self.fails_in_order(caps_of, ("tally", tally, given(NotATally, NOT_TALLIES)),
                            ("size", 2, given(InvalidNumber, NOT_INTEGERS + (0, -1, 5, 24, 10 ** 99))))
        self.fails(InvalidNumber, "given", 2, caps_of, bad, 2)
        self.fails(InvalidNumber, "given", 0, caps_of, tally=bad, size=0)
        self.fails(NoFit, None, None, caps_of, bad, 1)
        self.fails(NoFit, None, None, caps_of, size=1, tally=bad)
        self.fails(InvalidNumber, "given", 25, caps_of, Tally((0,) * 24), 25)


class Asking(Case):
    def test_told_tallies(self):
        seen = Tally((1, 1, 2, 2))
        self.same((1, 2, 3), next_counts, tally=seen)
        self.same(4, count_rules, tally=seen)
        self.same((0, 1), next_counts, tally=Tally((0, 0)))
        self.same((0, 1), next_counts, tally=Tally((0,)))
        self.same((0, 1, 2), next_counts, tally=Tally((1,)))
        self.same((0, 1), next_counts, tally=Tally((0,) * 23))
        self.same(0, count_rules, tally=Tally((2,)))
        self.same((), all_rules, tally=Tally((2,)))
        self.assertEqual([str(rule) for rule in all_rules(Tally((1, 1, 2)))], ["*0*|*", "1**|*"])
        self.assertEqual([(rule.head, rule.tail) for rule in all_rules(tally=Tally((0,)))], [((0,), (None,))])

    def test_long_tallies(self):
        tally = counts(Caps((), (1,)), 24)[1:]
        found = next_counts(Tally(tally[:23]))
        self.assertIn(tally[23], found)
        # The rule has one ban with the sum 24.
        asked = asked_by(tally[:23])
        self.assertEqual(found, tuple(tally[23] + 1 - more for more in range(9, -1, -1) if not some_crowd(asked + [more])))
        self.fails(TooMany, "given", 25, next_counts, Tally(tally))
        self.fails(TooMany, "given", 25, next_counts, tally=Tally((0,) * 24))
        self.fails(NoFit, None, None, next_counts, Tally((2,) + tally[1:]))
        self.fails(NoFit, None, None, next_counts, Tally((10 ** 99,) * 24))
        for function in (count_rules, all_rules):
            self.fails(TooMany, "given", 13, function, Tally(tally[:13]))
            self.fails(TooMany, "given", 24, function, tally=Tally((9,) * 24))

    def test_rules_of_twelve_counts(self):
        most = 0
        for tally, rule in list(many_bent(124, 12, 150)) + [(counts(Caps((), (1,)), 12)[1:], Caps((), (1,)))]:
            made = Tally(tally)
            many = count_rules(made)
            most = max(most, many)
            self.assertIs(many == 0, some_rule(made) is None)
            if many > 200:
                self.fails(TooMany, "given", many, all_rules, made)
                continue
            found = all_rules(made)
            texts = [str(one) for one in found]
            self.assertEqual((len(found), texts), (many, sorted(set(texts))))
            for one in found:
                self.assertTrue(fits(made, one))
                self.assertEqual((len(one.head), one.tail), (len(tally), (None,)))
                self.assertTrue(all(cap is None or size * (cap + 1) <= len(tally)
                                    for size, cap in enumerate(one.head, start=1)))
            if fits(made, rule):
                caps = [rule.cap(size) for size in range(1, len(tally) + 1)]
                self.assertIn(Caps(tuple(
                    cap if cap is not None and size * (cap + 1) <= len(tally) else None
                    for size, cap in enumerate(caps, start=1)), (None,)), found)
        self.assertGreater(most, 50)

    def test_around_two_hundred_ways(self):
        for text, many in AROUND:
            tally = Tally(counts(Caps.read(text), 12)[1:])
            self.same(many, count_rules, tally=tally)
            if many > 200:
                self.fails(TooMany, "given", many, all_rules, tally)
                self.fails(TooMany, "given", many, all_rules, tally=tally)
            else:
                self.assertEqual(len(set(map(str, all_rules(tally)))), many)

    def test_wrong(self):
        for function in (next_counts, count_rules, all_rules):
            self.fails_in_order(function, ("tally", Tally((1, 1)), given(NotATally, NOT_TALLIES)))


# Rules of which the first twelve counts leave just so many ways; no rule was found of which they leave just 200.
AROUND = (("|1", 84), ("3561100*****|*", 195), ("5531120*****|*", 201), ("3*4120**0000|*", 211), ("555016000***|*", 278))


if __name__ == "__main__":
    unittest.main()
