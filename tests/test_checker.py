import random
import unittest

from letparts.checker import accepts
from letparts.counts import count_all, counts, counts_by_excesses
from letparts.rules import Bans, Caps, from_rule_text
from letparts.tallies import Tally
from tests import slow_checker
from tests.helpers import ANY, NOT_INTEGERS, NOT_ROWS, OTHER_KINDS, Case

EVERY = tuple(count_all(number) for number in range(61))

# True claims with right papers.
SHOWN = (
    (("lets", "|1", (4, 2, 1)), ()), (("lets", "2+1 3", (2, 2)), ()), (("lets", "|*", ()), ()),
    (("bars", "|1", (4, 4, 1, 1)), (4, 4)), (("bars", "|1", (4, 4, 1, 1)), (1, 1)), (("bars", "|2", (3, 3, 3)), (3, 3, 3)),
    (("bars", "2+1 2+2+1 3", (3, 2, 2, 1)), (2, 2, 1)), (("bars", "2+1 3", (3,)), (3,)), (("bars", "0|*", (1,)), (1,)),
    (("counts", "|1", 4, 2), (1, 1, 1, 2, 2)), (("counts", "2+1 3", 4, 3), (1, 1, 2, 3, 5)),
    (("counts", "none", 2, 2), (1, 1, 2)), (("counts", "|*", 0, 1), (1,)), (("counts", "1 2", 3, 1), (1, 1, 2, 3)),
    (("alike", "|1", "|*0"), ()), (("alike", "2+1 3", "1+1+1 3"), ()), (("alike", "2*0|*", "2+1 3"), ()),
    (("alike", "|*", "none"), ()), (("alike", "none", "none"), ()),
    (("unlike", "|1", "|2"), 2), (("unlike", "2+1 3", "|1"), 2), (("unlike", "|0", "|*"), 1), (("unlike", "2+1 3", "none"), 3),
    (("within", "|1", "|2"), ()), (("within", "1+1 3", "2+1+1 3"), ()), (("within", "|0", "1+1 2"), ()),
    (("within", "2+1 3", "2+1 2+2+1 3"), ()), (("within", "|*", "none"), ()),
    (("not within", "|2", "|1"), (1, 1)), (("not within", "|2", "|1"), (5, 4, 4)), (("not within", "none", "2+1 3"), (2, 1)),
    (("not within", "|1", "2+1 3"), (3,)), (("not within", "|*", "|0"), (9,)),
    (("exchanged", "|1", "|*0", (6, 4, 1), (3, 3, 1, 1, 1, 1, 1)), (6, 4, 2, 2)),
    (("exchanged", "|1", "|*0", (6, 4, 1), (3, 3, 1, 1, 1, 1, 1)), (4, 2, 2, 6)),
    (("exchanged", "|*0", "|1", (3, 3, 1), (6, 1)), (3,)), (("exchanged", "|1", "|*0", (3, 1), (3, 1)), ()),
    (("exchanged", "|*0", "|1", (1, 1, 1, 1), (4,)), (1, 1, 2)), (("exchanged", "|1", "|1", (), ()), ()),
    (("core", (4, 4, 1), 3, ()), ((4, 1, 1), (1, 1, 1), ())), (("core", (4, 4, 1), 3, ()), ((3, 2, 1), (3,), ())),
    (("core", (3, 1), 3, (3, 1)), ()), (("core", (2,), 2, ()), ((),)), (("core", (), 9, ()), ()),
    (("core", (5, 2), 2, (1,)), ((3, 2), (3,), (1,))),
    (("garden", (2, 2, 2, 2)), ()), (("garden", (1, 1, 1)), ()), (("dealt", (4, 4, 1), (3, 3, 3)), ()),
    (("dealt", (), ()), ()), (("dealt", (1, 1), (2,)), ()), (("dealt", (2, 1), (2, 1)), ()),
    (("round", (3, 2, 1)), ((3, 2, 1),)), (("round", ()), ((),)), (("round", (2, 2)), ((2, 1, 1), (3, 1), (2, 2))),
    (("round", (1, 1)), ((2,), (1, 1))), (("round", (4, 3, 1)), ((3, 3, 2), (3, 2, 2, 1), (4, 2, 1, 1), (4, 3, 1))),
    (("worth", (4, 4, 1), 5), ()), (("worth", (), 0), ()), (("worth", (1,), 1), ()), (("worth", (4, 4), 0), ()),
    (("lost", (4, 4)), ()), (("lost", ()), ()), (("won", (4, 4, 1)), (3, 2, 1)), (("won", (4, 4, 1)), (4, 4)),
    (("won", (1,)), ()), (("won", (2, 1)), ()),
    (("fished", (5, 3, 3, 1), (6, 4, 2)), ()), (("fished", (), ()), ()), (("fished", (1,), (1,)), ()),
    (("fished", (3, 1), (3, 1)), ()), (("vector", (3, 1), (0, -1, 1)), ()), (("vector", (), (0, 0)), ()),
    (("vector", (1,), (1, -1)), ()), (("vector", (2,), (0, 1, -1)), ()), (("vector", (), (0,) * 9), ()),
    (("place", "|*", (4, 1), 5), ()), (("place", "|1", (6,), 3), ()), (("place", "2+1 3", (4, 1, 1), 2), ()),
    (("place", "|0", (), 0), ()), (("place", "|1", (1,), 0), ()),
    (("ladders", "|*", (3, 2), 5), (((2, 2), 2), ((3, 1), 3))), (("ladders", "|1", (4, 2, 1), 7), (((3, 2, 1), 2), ((4, 2), 5))),
    (("ladders", "|*", (), 1), ()), (("ladders", "*0|*", (3,), 0), ()), (("ladders", "|1", (1,), 1), (((), 1),)),
    (("next", (1, 1, 2, 2), 3), "|1"), (("next", (1, 1, 2, 2), 3), "|*0"), (("next", (1, 1, 2, 2), 3), "*0*0|*"),
    (("next", (1,), 2), "|*"), (("next", (1, 1, 2, 2), 1), "40*00|*"), (("next", (0, 0), 0), "|0"),
    (("not next", (1, 1, 2, 2), 0), ()), (("not next", (1, 1, 2, 2), 4), ()), (("not next", (1,), 3), ()),
    (("perfect", (2, 2, 1)), (2, 3)), (("perfect", ()), ()), (("perfect", (1, 1, 1)), (4,)), (("perfect", (3, 1, 1)), (3, 2)),
    (("balanced", (3, 1)), (3, 3)), (("balanced", ()), ()), (("balanced", (1, 1)), (5,)), (("balanced", (3, 3, 1)), (3, 5)),
    (("not perfect", (2, 1, 1)), 2), (("not perfect", (2,)), 1), (("not perfect", (4, 1)), 3), (("not perfect", (4, 1)), 2),
    (("fits", (1, 1, 2, 2), "|1"), ()), (("fits", (1, 1, 2, 2), "|*0"), ()), (("fits", (0,), "0|*"), ()),
    (("no fit", (2,)), (1,)), (("no fit", (1, 1, 4)), (3,)), (("no fit", (0, 0, 2)), (3,)),
    (("no fit", (1, 2, 3, 5, 7, 11, 15, 22, 0)), (9,)), (("no fit", (1, 0, 1, 0)), (2, 4)), (("no fit", (1, 1, 2, 1, 0)), (2, 4, 5)))


def bent(value):
    """Values that are like one, but for one thing."""
    if isinstance(value, bool) or value is None:
        return []
    if isinstance(value, int):
        return [value + 1, value - 1, -value, bool(value), str(value), (value,), [value], None]
    if isinstance(value, str):
        return [value + " ", " " + value, value[:-1], value + "*", value + "|", value.upper(), value.encode(), (value,),
                None, "|1", "|*", "2+1 3", "none", "1", 1]
    found = [list(value), value + (1,), (1,) + value, value + value, value[:-1], value[1:], value[::-1], (value,), None,
             len(value), str(value), value + ((),), ((),) + value, value + (None,)]
    for at, one in enumerate(value):
        found += [value[:at] + (other,) + value[at + 1:] for other in bent(one)]
        found.append(value[:at] + value[at + 1:])
        found.append(value[:at] + (one, one) + value[at + 1:])
    return found


def key(value):
    return repr(value)


class Checker(Case):
    def check(self, claim, paper):
        """The checker says what it is to say, of small claims."""
        self.assertIs(accepts(claim, paper), slow_checker.accepts(claim, paper), (claim, paper))

    def test_right_papers(self):
        for claim, paper in SHOWN:
            self.same(True, accepts, claim=claim, paper=paper)
            self.assertTrue(slow_checker.accepts(claim, paper), (claim, paper))
        self.assertEqual({claim[0] for claim, _ in SHOWN}, set(slow_checker.FORMS))

    def test_any_one_thing_bent(self):
        refused = 0
        for claim, paper in SHOWN:
            for other in bent(paper):
                self.check(claim, other)
            for other in bent(claim):
                self.check(other, paper)
                refused += not accepts(other, paper)
            for at in range(1, len(claim)):
                for other in bent(claim[at]):
                    for more in (paper, ()):
                        self.check(claim[:at] + (other,) + claim[at + 1:], more)
        self.assertGreater(refused, 1000)

    def test_other_words_and_papers(self):
        lots = random.Random(161)
        papers = sorted({paper for _, paper in SHOWN}, key=key)
        for claim, _ in SHOWN:
            for paper in papers:
                self.check(claim, paper)
            for word in slow_checker.FORMS:
                for paper in lots.sample(papers, 6) + [()]:
                    self.check((word,) + claim[1:], paper)
            for word in ("", "Lets", "lets ", "barred", "next to", "unfit", None, 1, True, b"lets", ("lets",), ["lets"]):
                self.assertIs(accepts((word,) + claim[1:], ()), False)

    def test_claims_of_other_rows_and_numbers(self):
        lots = random.Random(162)
        values = sorted({value for claim, _ in SHOWN for value in claim[1:]}, key=key)
        for claim, paper in SHOWN:
            for at in range(1, len(claim)):
                for value in lots.sample(values, 25):
                    other = claim[:at] + (value,) + claim[at + 1:]
                    if sum(value) < 30 if isinstance(value, tuple) and all(type(x) is int for x in value) else True:
                        self.check(other, paper)

    def test_values_of_any_kind(self):
        wrong = NOT_ROWS + NOT_INTEGERS + (
            -1, 10, 24, 25, 60, 61, 600, 601, ("lets",), ("lets", "|1"), UNLIKE, Bans(((2, 1),)), Tally((1,)), Case)
        for value in wrong:
            self.assertIs(accepts(value, ()), False)
            self.assertIs(accepts(claim=value, paper=value), False)
            self.assertIs(accepts((value,), ()), False)
        for claim, paper in SHOWN[::2]:
            for value in wrong:
                if isinstance(value, int) or isinstance(value, tuple) and slow_checker.is_row(value):
                    continue
                if isinstance(value, str) and isinstance(claim[1], str):
                    continue
                for at in range(len(claim)):
                    self.check(claim[:at] + (value,) + claim[at + 1:], paper)
                self.check(claim, value)

    def test_truths_are_no_numbers(self):
        for claim, paper in (
                (("bars", "0|*", (1,)), (True,)), (("bars", "0|*", (True,)), (1,)), (("counts", "|*", 0, True), (1,)),
                (("counts", "|*", False, 1), (1,)), (("counts", "|*", 0, 1), (True,)), (("unlike", "|0", "|*"), True),
                (("exchanged", "|*0", "|1", (1, 1), (2,)), (True,)), (("worth", (1,), True), ()),
                (("worth", (), False), ()), (("vector", (1,), (True, -1)), ()), (("place", "|1", (1,), False), ()),
                (("ladders", "|1", (1,), True), (((), 1),)), (("ladders", "|1", (1,), 1), (((), True),)),
                (("next", (True,), 2), "|*"), (("next", (2,), True), "|*"), (("not perfect", (2,)), True),
                (("no fit", (2,)), (True,)), (("no fit", (True, 0)), (1,)), (("fits", (False,), "0|*"), ()),
                (("round", (1,)), ((True,),)), (("core", (True,), 2, (1,)), ()), (("won", (2, 1)), (False,))):
            self.assertIs(accepts(claim, paper), False, (claim, paper))
            self.assertIs(slow_checker.accepts(claim, paper), False)


class Edges(Case):
    def both(self, right, *wrong):
        """The first claim with its paper is accepted, the others are not."""
        self.assertIs(accepts(*right), True, right)
        for claim, paper in wrong:
            self.assertIs(accepts(claim, paper), False, (claim, paper))

    def test_numbers_of_sixty(self):
        sixty = counts(Caps((), (1,)), 60)
        self.both((("counts", "|1", 60, sixty[60]), sixty), (("counts", "|1", 60, sixty[60]), sixty[:60]),
                  (("counts", "|1", 60, sixty[60] + 1), sixty), (("counts", "|1", 60, sixty[60]), EVERY),
                  (("counts", "|1", 61, 0), sixty), (("counts", "|1", 61, counts(UNLIKE, 61)[61]), counts(UNLIKE, 61)))
        few = counts(from_rule_text("2+1 3"), 60)
        self.both((("counts", "2+1 3", 60, few[60]), EVERY), (("counts", "2+1 3", 60, few[60]), few),
                  (("counts", "2+1 3", 60, few[60]), list(EVERY)), (("counts", "2+1 3", 60, few[60]), EVERY[:-1]))

    def test_sums_of_sixty(self):
        self.both((("exchanged", "|1", "|*0", (60,), (15,) * 4), (60, 30, 30)),
                  (("exchanged", "|1", "|*0", (61,), (61,)), ()), (("exchanged", "|1", "|*0", (62,), (31, 31)), (62,)),
                  (("exchanged", "|1", "|*0", (60,), (15,) * 4), (60, 30)),
                  (("exchanged", "|1", "|*0", (60,), (30, 30)), (60,)),
                  (("exchanged", "|1", "|*0", (60,), (15,) * 4), (60, 30, 30, 15)),
                  (("exchanged", "|1", "|*0", (1, 1), (1, 1)), ()), (("exchanged", "|1", "|*0", (2, 2), (1, 1, 1, 1)), (2, 2)),
                  (("exchanged", "|*0", "|1", (2, 1), (2, 1)), ()), (("exchanged", "|1", "|*0", (6,), (6,)), ()),
                  (("exchanged", "|1", "2+1 3", (60,), (60,)), ()), (("exchanged", "|1", "|2", (5,), (5,)), ()),
                  (("exchanged", "none", "none", (5,), (5,)), ()))
        self.both((("place", "|*", (60,), EVERY[60] - 1), ()), (("place", "|*", (61,), count_all(61) - 1), ()),
                  (("place", "|*", (60,), EVERY[60]), ()), (("place", "|1", (30, 30), 0), ()))
        self.both((("not perfect", (59, 1)), 2), (("not perfect", (60, 1)), 2), (("not perfect", (59, 1)), 59),
                  (("not perfect", (59, 1)), 61), (("not perfect", (59, 1)), -1), (("not perfect", (59, 1)), (2,)))
        self.both((("not perfect", (2,) + (1,) * 58), 2),
                  (("not perfect", (1,) * 60), 1), (("not perfect", (2,) + (1,) * 59), 2))

    def test_sums_of_twenty_four(self):
        row = (1,) * 24
        self.both((("ladders", "|*", row, 1), ((row[1:], 1),)), (("ladders", "|*", row + (1,), 1), ((row, 1),)),
                  (("ladders", "|*", row, 1), ()), (("ladders", "|*", row, 2), ((row[1:], 1),)),
                  (("ladders", "|*", row, 1), [(row[1:], 1)]), (("ladders", "|*", row, 1), ([row[1:], 1],)),
                  (("ladders", "|1", row, 0), ()), (("ladders", "|*", row, 1), ((row[1:], 1), (row, 1))))

    def test_great_sums(self):
        self.both((("lets", "|1", (600,)), ()), (("lets", "|1", (601,)), ()), (("lets", "|1", (599, 1, 1)), ()))
        self.both((("bars", "|0", (600,)), (600,)), (("bars", "|0", (600,)), ()), (("bars", "|0", (601,)), (601,)))
        self.both((("bars", "|6", (80,) * 7), (80,) * 7), (("bars", "|6", (80,) * 7), (80,) * 6))
        self.both((("not within", "|*", "|6"), (85,) * 7), (("not within", "|*", "|6"), (86,) * 7))
        self.both((("core", (600,), 2, ()), tuple((600 - 2 * k,) if k < 300 else () for k in range(1, 301))),
                  (("core", (600,), 2, ()), ((),)), (("core", (601,), 2, (1,)), ()))
        self.both((("won", (600,)), ()), (("won", (600,)), (1,)), (("won", (600,)), (600,)), (("won", (4, 4)), ()))
        self.both((("won", (300, 299)), (298, 298)), (("won", (300, 299)), (300, 300)),
                  (("won", (300, 299)), (299, 299)), (("won", (300, 299)), (4, 4)))
        self.both((("worth", (600,), 600), ()), (("worth", (600,), 599), ()))
        self.both((("lost", (300, 300)), ()), (("lost", (300, 299)), ()))
        self.both((("garden", (2,) * 300), ()), (("garden", (300, 300)), ()))
        self.both((("dealt", (600,), (599, 1)), ()), (("dealt", (600,), (600,)), ()))
        self.both((("fished", (599, 1), (301, 299)), ()), (("fished", (600,), (600,)), ()))
        stairs = tuple(range(34, 0, -1))
        self.both((("round", stairs), (stairs,)), (("round", stairs), (stairs, stairs)), (("round", stairs), ()),
                  (("round", (595,)), ((594, 1),)))
        self.both((("perfect", (1,) * 600), (601,)), (("perfect", (2,) + (1,) * 598), (599, 2)))
        self.both((("balanced", (243, 81, 27, 9, 3, 1)), (3,) * 6), (("balanced", (243, 81, 27, 9, 3, 1)), (3,) * 5))

    def test_rods_and_vectors(self):
        self.both((("core", (9,), 9, ()), ((),)), (("core", (10,), 10, ()), ((),)), (("core", (1,), 1, ()), ((),)),
                  (("core", (9,), 9, (9,)), ()), (("core", (9,), 9, (8,)), ((8,),)))
        self.both((("vector", (), (0,) * 9), ()), (("vector", (), (0,) * 10), ()), (("vector", (), (0,)), ()),
                  (("vector", (), ()), ()), (("vector", (2,), (0, 0)), ()), (("vector", (1,), [1, -1]), ()),
                  (("vector", (1,), (-1, 1)), ()), (("vector", (1,), (1, -1)), (0,)))

    def test_long_tallies(self):
        tally = counts(UNLIKE, 24)[1:]
        self.both((("next", tally[:23], tally[23]), "|1"), (("next", tally, counts(UNLIKE, 25)[25]), "|1"),
                  (("next", tally[:23], tally[23] + 1), "|1"), (("next", tally[:23], tally[23]), "|2"),
                  (("next", tally[:23], tally[23]), "none"), (("next", tally[:23], tally[23]), ()),
                  (("next", tally[:23], tally[23]), UNLIKE))
        self.both((("not next", tally[:23], 0), ()), (("not next", tally, 0), ()), (("not next", tally[:23], tally[23]), ()),
                  (("not next", (2,) + tally[1:23], 0), ()), (("not next", tally[:23], -1), ()),
                  (("not next", tally[:23], 0), None))
        self.both((("fits", tally, "|1"), ()), (("fits", tally, "|2"), ()), (("fits", tally + (0,), "|1"), ()),
                  (("fits", counts(UNLIKE, 25)[1:], "|1"), ()), (("fits", (), "|1"), ()), (("fits", tally, "none"), ()),
                  (("fits", counts(Caps((), (None,)), 24)[1:], "none"), ()))
        self.both((("no fit", (0,) * 23 + (2,)), (24,)), (("no fit", (0,) * 24), (24,)),
                  (("no fit", (0,) * 23 + (2,)), (25,)), (("no fit", (0,) * 24 + (2,)), (25,)),
                  (("no fit", (0,) * 23 + (2,)), (23, 24)), (("no fit", (2,)), ()), (("no fit", (2,)), (0,)), (("no fit", (2,)), 1))
        self.both((("no fit", (10 ** 90,) * 24), (1,)), (("no fit", (1, 10 ** 90)), (1,)))
        self.both((("no fit", (1, 0, 1, 0)), (2, 4)), (("no fit", (1, 0, 1, 0)), (4, 2)),
                  (("no fit", (1, 0, 1, 0)), (2,)), (("no fit", (1, 0, 1, 0)), (2, 2, 4)),
                  (("no fit", (1, 0, 1, 0)), [2, 4]))

    def test_crowds(self):
        lots = random.Random(163)
        seen = {True: 0, False: 0}
        for _ in range(60):
            asked = [lots.choice((-2, -1, 0, 0, 1, 1, 2, 3)) for _ in range(lots.randint(1, 6))]
            tally = tuple(counts_by_excesses([1 - many for many in asked])[1:])
            if min(tally) < 0:
                continue
            for choice in range(1 << len(tally)):
                paper = tuple(at + 1 for at in range(len(tally)) if choice >> at & 1)
                right = slow_checker.accepts(("no fit", tally), paper)
                self.assertIs(accepts(("no fit", tally), paper), right, (tally, paper))
                seen[right] += 1
        self.assertGreater(min(seen.values()), 50)

    def test_objects_in_papers(self):
        for claim, paper in SHOWN:
            for value in OTHER_KINDS + (UNLIKE, Bans(()), Tally((1,)), ANY):
                expected = slow_checker.accepts(claim, value)
                self.assertIs(accepts(claim, value), expected)
                self.assertIs(accepts(claim, (value,)), False)
                if isinstance(paper, tuple):
                    self.assertIs(accepts(claim, paper + (value,)), False)


UNLIKE = Caps((), (1,))


if __name__ == "__main__":
    unittest.main()
