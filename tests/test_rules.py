import itertools
import random
import unittest

from letparts.errors import InvalidBans, InvalidHead, InvalidNumber, InvalidRow, InvalidTail, InvalidText
from letparts.errors import NotARule, TooMany
from letparts.rules import Bans, Caps, both, from_rule_text, is_within, lets, not_within, standing
from tests.helpers import ANY, NOT_INTEGERS, NOT_ROWS, OTHER_KINDS, Case, given, index, listed_rows, random_bans
from tests.helpers import random_caps, slow_lets

NOT_RULES = NOT_INTEGERS + (0, "|1", "none", (), ((1,),), Caps, Bans)
NOT_CAPS = tuple(value for value in NOT_INTEGERS if value is not None) + (-1, 7, 10 ** 99, "*", "0")
SMALL = [row for number in range(9) for row in listed_rows(number)]
EVERY = Caps.read("|*")
UNLIKE = Caps((), (1,))
FEW = Bans(((2, 1), (3,)))
BAN_TEXTS = ("", "-", "0", "1 1", "2 1", "1  2", " 1", "1 ", "1 -", "- 1", "none none", "none 1", "1 none", "None",
             "NONE", "none ", "1,2", "1+2", "01", "1 02", "41", "1 20+21", "1\n2", "1 2 3 4 5 6 7", "1" * 4000, "3 2+1")
CAP_TEXTS = ("|", "0", "00", "*", "0|", "||", "|0|", "0||1", "|7", "7|0", "|-1", "|1 ", " |1", "1 |1", "|x", "x|1",
             "|" + "0" * 9, "1" * 25 + "|0", "|*\n", "a|1", "None|1", "|1,2", "|0.5", "1" * 3999 + "|")
KINDS = (True, False, None, 1, b"|1", b"1", ("|1",), ["|1"], ((1,),), {}, ANY, UNLIKE, FEW, int)


def slow_bans(rule, last=90):
    """The bans of a rule, of a cap rule those of its first sizes."""
    if isinstance(rule, Bans):
        return rule.bans
    sizes = [(size, rule.cap(size)) for size in range(1, last + 1)]
    return [(size,) * (cap + 1) for size, cap in sizes if cap is not None]


class CapRules(Case):
    def test_properties_and_text(self):
        for head, tail, text in (
                ((), (None,), "|*"), ((), (1,), "|1"), ((), (None, 0), "|*0"), ((0, 2), (0,), "02|0"),
                ((1, 1), (1, 1), "11|11"), ((None,) * 24, (6,) * 8, "*" * 24 + "|" + "6" * 8),
                (tuple(range(7)), (None, 3), "0123456|*3")):
            for rule in (Caps(head, tail), Caps(tail=tail, head=head), Caps.read(text), Caps.read(text=text),
                         from_rule_text(text), from_rule_text(text=text)):
                self.assertIs(type(rule), Caps)
                self.assertEqual((rule.head, rule.tail, str(rule)), (head, tail, text))

    def test_caps_of_sizes(self):
        rule = Caps((4, None), (0, 1, 6))
        for size, cap in zip(range(1, 12), (4, None, 0, 1, 6, 0, 1, 6, 0, 1, 6)):
            self.same(cap, rule.cap, size=size)
        self.assertEqual([rule.cap(3 * 10 ** 99 + more) for more in range(3)], [0, 1, 6])
        self.assertEqual([Caps(tuple([0] * 24), (5,)).cap(size) for size in (1, 24, 25, 26)], [0, 0, 5, 5])
        self.assertEqual([Caps((), (0, 1, 2, 3, 4, 5, 6, None)).cap(size) for size in range(1, 10)],
                         [0, 1, 2, 3, 4, 5, 6, None, 0])
        faults = given(InvalidNumber, NOT_INTEGERS + (0, -1, -10 ** 99))
        self.fails_in_order(rule.cap, ("size", 1, faults))

    def test_wrong_head_and_tail(self):
        heads = [(value, None) for value in OTHER_KINDS + (3, "11", [1])]
        heads += [((1, value, 7), 1) for value in NOT_CAPS] + [((value,), 0) for value in NOT_CAPS]
        heads += [((0,) * 25, 24), ((0,) * 40, 24), ((0,) * 24 + (7,), 24), ((0,) * 23 + (7,) + (0,) * 9, 23)]
        tails = [(value, None) for value in OTHER_KINDS + (3, "11", [1], ())]
        tails += [((1, value, 7), 1) for value in NOT_CAPS] + [((value,), 0) for value in NOT_CAPS]
        tails += [((0,) * 9, 8), ((0,) * 40, 8), ((0,) * 8 + (7,), 8), ((0,) * 7 + (7,) + (0,) * 9, 7)]
        self.fails_in_order(Caps, ("head", (1,), index(InvalidHead, *heads)),
                            ("tail", (1,), index(InvalidTail, *tails)))

    def test_wrong_texts(self):
        for text in CAP_TEXTS + KINDS + BAN_TEXTS + ("none", "1", "1 2"):
            for call in (Caps.read, lambda text: Caps.read(text=text)):
                self.fails(InvalidText, "given", text, call, text)
        for text in ("|" + "0" * 8, "1" * 24 + "|0"):
            self.assertEqual(str(Caps.read(text)), text)

    def test_equal(self):
        for text, other in (("11|1", "|1"), ("|1", "|11111111"), ("1|01", "|10"), ("10|10", "|10101010"),
                            ("*" * 24 + "|*", "|*"), ("012|3012", "|0123"), ("|0123", "0|1230")):
            one, two = Caps.read(text), Caps.read(other)
            self.assertTrue(one == two and two == one and not one != two)
            self.assertEqual((str(one), str(two)), (text, other))
        for text, other in (("|1", "|0"), ("|1", "|10"), ("0|1", "|1"), ("|0123", "|0124"), ("|*", "*" * 24 + "|6"),
                            ("1" * 24 + "|0", "1" * 23 + "|0"), ("|1111111*", "|1"), ("|6", "|*")):
            one, two = Caps.read(text), Caps.read(other)
            self.assertTrue(one != two and two != one and not one == two)
        for value in OTHER_KINDS + (Bans(()), "|1", ((), (1,)), ((1, 1),)):
            self.assertFalse(UNLIKE == value or value == UNLIKE)
            self.assertTrue(UNLIKE != value and value != UNLIKE)

    def test_equal_if_all_caps_are(self):
        lots = random.Random(1)
        for _ in range(2000):
            one = Caps(tuple(lots.choice((0, 1)) for _ in range(lots.randint(0, 3))),
                       tuple(lots.choice((0, 1)) for _ in range(lots.randint(1, 4))))
            other = Caps(tuple(lots.choice((0, 1)) for _ in range(lots.randint(0, 3))),
                         tuple(lots.choice((0, 1)) for _ in range(lots.randint(1, 4))))
            same = all(one.cap(size) == other.cap(size) for size in range(1, 40))
            self.assertEqual(one == other, same, (str(one), str(other)))

    def test_shortest(self):
        for text, short in (("11|11", "|1"), ("|*", "|*"), ("01|0101", "|01"), ("1|0101", "|10"), ("10|0", "1|0"),
                            ("2101|01", "2|10"), ("|011011", "|011"), ("|01101", "|01101"), ("0110|0110", "|0110"),
                            ("*" * 24 + "|6" + "*" * 7, "*" * 17 + "|" + "*" * 7 + "6"),
                            ("|00000001", "|00000001"),
                            ("0" * 24 + "|0", "|0"), ("1|10", "1|10"), ("0|10", "|01")):
            rule = Caps.read(text)
            for _ in range(2):
                self.assertEqual(str(rule.shortest()), short)
            self.assertEqual(str(rule), text)
            self.assertIs(type(rule.shortest()), Caps)
            self.assertTrue(rule.shortest() == rule)

    def test_shortest_of_all(self):
        for length in range(1, 5):
            for caps in itertools.product((0, 1), repeat=length):
                for cut in range(length):
                    rule = Caps(caps[:cut], caps[cut:])
                    short = rule.shortest()
                    told = [rule.cap(size) for size in range(1, 30)]
                    self.assertEqual([short.cap(size) for size in range(1, 30)], told)
                    lengths = [(tail, head) for tail in range(1, length + 1) for head in range(length)
                               if all(told[at] == told[at + tail] for at in range(head, 29 - tail))]
                    self.assertEqual((len(short.tail), len(short.head)), min(lengths))

    def test_never_changes(self):
        for rule, name in ((UNLIKE, "head"), (UNLIKE, "tail"), (FEW, "bans")):
            with self.assertRaises(AttributeError):
                setattr(rule, name, ())
            self.assertTrue(rule)
        self.assertTrue(Caps((), (0,)))
        self.assertTrue(Bans(()))


class BanRules(Case):
    def test_properties_and_text(self):
        for bans, text in (((), "none"), (((1,),), "1"), (((2, 1), (3,)), "2+1 3"), (((40,),), "40"),
                           (((1,) * 40,), "+".join(["1"] * 40)), (((1,), (1, 1), (2,), (3,), (4,), (39, 1)),
                                                                  "1 1+1 2 3 4 39+1")):
            for rule in (Bans(bans), Bans(bans=bans), Bans.read(text), Bans.read(text=text), from_rule_text(text)):
                self.assertIs(type(rule), Bans)
                self.assertEqual((rule.bans, str(rule)), (bans, text))

    def test_wrong_bans(self):
        kinds = [(value, None) for value in OTHER_KINDS + (3, "1", [(1,)], ["1"])]
        kinds += [(((1,), value, (1,)), 1) for value in NOT_ROWS] + [((value,), 0) for value in NOT_ROWS]
        kinds += [(((),), 0), (((1,), ()), 1), (((41,),), 0), (((1,) * 41,), 0), (((40,), (40, 1)), 1),
                  (((3,), (2, 1)), 1), (((1,), (1,)), 1), (((1,), (2,), (1, 1)), 2),
                  (tuple((k,) for k in range(1, 8)), 6), (tuple((k,) for k in range(1, 12)), 6),
                  (((1,), (2,), (3,), (4,), (5,), (6,), (1, 2)), 6), (((1,), (2,), (3,), (4,), (5,), (5,)), 5),
                  (((1,), (41,), (3,), (4,), (5,), (6,), (7,)), 1)]
        self.fails_in_order(Bans, ("bans", ((1,),), index(InvalidBans, *kinds)))

    def test_wrong_texts(self):
        for text in BAN_TEXTS + KINDS + CAP_TEXTS + ("|1", "11|1"):
            for call in (Bans.read, lambda text: Bans.read(text=text)):
                self.fails(InvalidText, "given", text, call, text)

    def test_rule_texts(self):
        for text in BAN_TEXTS + CAP_TEXTS + KINDS:
            for call in (from_rule_text, lambda text: from_rule_text(text=text)):
                self.fails(InvalidText, "given", text, call, text)
        lots = random.Random(2)
        for _ in range(100):
            for rule in (random_caps(lots, Caps, 24), random_bans(lots, Bans)):
                again = from_rule_text(str(rule))
                self.assertTrue(again == rule)
                self.assertEqual(str(again), str(rule))

    def test_equal(self):
        self.assertTrue(FEW == Bans(((2, 1), (3,))) and not FEW != Bans.read("2+1 3"))
        self.assertTrue(Bans(()) == Bans(()))
        for other in (Bans(()), Bans(((3,),)), Bans(((2, 1),)), Bans(((2, 1), (3,), (4,)))):
            self.assertTrue(FEW != other and not FEW == other)
        self.assertFalse(Bans(((2, 1), (2, 2, 1))) == Bans(((2, 1),)))
        for value in OTHER_KINDS + (EVERY, "none", "2+1 3", ((2, 1), (3,))):
            self.assertFalse(FEW == value or value == FEW)
            self.assertTrue(FEW != value and value != FEW)
        self.assertFalse(Bans(()) == EVERY)

    def test_lean(self):
        for text, lean in (("none", "none"), ("2+1 2+2+1", "2+1"), ("1 1+1 2+1", "1"), ("2+1 3", "2+1 3"),
                           ("1+1 2+1+1 2+2 3+2+2", "1+1 2+2"), ("1+1+1 2+1 2+1+1 2+2+1", "1+1+1 2+1")):
            rule = Bans.read(text)
            self.assertEqual([str(rule.lean()), str(rule.lean()), str(rule)], [lean, lean, text])
            self.assertIs(type(rule.lean()), Bans)
        lots = random.Random(3)
        for _ in range(100):
            rule = random_bans(lots, Bans, 6)
            lean = rule.lean()
            self.assertTrue(all(slow_lets(rule, row) == slow_lets(lean, row) for row in SMALL))
            for one, other in itertools.permutations(lean.bans, 2):
                self.assertFalse(all(one.count(size) <= other.count(size) for size in one))

    def test_same_rows_exactly_if_lean_rules_are_equal(self):
        lots = random.Random(4)
        for _ in range(300):
            one, other = random_bans(lots, Bans, 4), random_bans(lots, Bans, 4)
            same = all(slow_lets(one, row) == slow_lets(other, row) for row in SMALL)
            self.assertEqual(one.lean() == other.lean(), same)


class Lets(Case):
    def test_examples(self):
        for text, row, expected in (
                ("02|0", (), True), ("02|0", (2,), True), ("02|0", (2, 2), True), ("02|0", (2, 2, 2), False),
                ("02|0", (1,), False), ("02|0", (3,), False), ("|*", (1,) * 600, True), ("|6", (1,) * 7, False),
                ("|6", (1,) * 6, True), ("1" * 24 + "|0", (24,), True), ("1" * 24 + "|0", (25,), False),
                ("*" * 24 + "|*******6", (32,) * 7, False), ("*" * 24 + "|*******6", (32,) * 6, True),
                ("none", (600,), True), ("40", (40,), False), ("40", (41, 39), True), ("1", (2,), True)):
            self.same(expected, lets, rule=from_rule_text(text), row=row)

    def test_all_rows(self):
        lots = random.Random(5)
        rules = [random_caps(lots, Caps) for _ in range(60)] + [random_bans(lots, Bans) for _ in range(60)]
        for rule in rules + [EVERY, UNLIKE, FEW, Bans(()), Caps((), (0,))]:
            for row in SMALL:
                self.assertIs(lets(rule, row), slow_lets(rule, row), (str(rule), row))
                bans = [ban for ban in slow_bans(rule) if all(ban.count(k) <= row.count(k) for k in ban)]
                self.assertEqual(standing(rule, row), tuple(sorted(bans)))

    def test_what_stands_in_a_let_row_is_let(self):
        lots = random.Random(6)
        for _ in range(30):
            for rule in (random_caps(lots, Caps), random_bans(lots, Bans)):
                for row in SMALL:
                    if lets(rule, row):
                        self.assertTrue(all(lets(rule, row[:at] + row[at + 1:]) for at in range(len(row))))

    def test_standing(self):
        self.same(((1, 1), (4, 4)), standing, rule=UNLIKE, row=(4, 4, 4, 1, 1, 1))
        self.same(((2, 1), (3,)), standing, rule=FEW, row=(3, 2, 1))
        self.same((), standing, rule=FEW, row=())
        self.same((), standing, rule=Caps((), (0,)), row=())
        self.same(((1,), (3,), (5,)), standing, rule=Caps((), (0,)), row=(5, 3, 1))
        self.same(((1,) * 7, (80,) * 7), standing, rule=Caps((), (6,)), row=(80,) * 7 + (1,) * 7)

    def test_wrong(self):
        for function in (lets, standing):
            self.fails_in_order(function, ("rule", UNLIKE, given(NotARule, NOT_RULES)),
                                ("row", (2, 1), given(InvalidRow, NOT_ROWS)))


class Within(Case):
    def check_pair(self, rule, other):
        bans = [ban for ban in slow_bans(other) if slow_lets(rule, ban)]
        self.assertIs(is_within(rule, other), not bans, (str(rule), str(other)))
        row = not_within(rule, other)
        if bans:
            self.assertLessEqual(sum(row), 600)
            self.assertTrue(slow_lets(rule, row) and not slow_lets(other, row))
            self.assertTrue(lets(rule, row) and not lets(other, row))
        else:
            self.assertIsNone(row)

    def test_all_kinds(self):
        lots = random.Random(7)
        for _ in range(150):
            rules = [random_caps(lots, Caps, 2), random_caps(lots, Caps, 24), random_bans(lots, Bans, 5)]
            for rule, other in itertools.product(rules, repeat=2):
                self.check_pair(rule, other)
        for rule, other in itertools.product([EVERY, UNLIKE, FEW, Bans(()), Caps((), (0,)), Bans(((1,),))], repeat=2):
            self.check_pair(rule, other)

    def test_where_it_shows_late(self):
        heads, late = ("*" * 24, "*" * 8), "*******6"
        self.same(False, is_within, rule=EVERY, other=Caps.read(heads[0] + "|" + late))
        self.same((32,) * 7, not_within, rule=EVERY, other=Caps.read(heads[0] + "|" + late))
        self.same((32,) * 7, not_within, rule=Bans(()), other=Caps.read(heads[0] + "|" + late))
        # Of the tails of 7 and 8 caps the last ones stand together at the size 80 alone.
        rule = Caps.read(heads[0] + "|0000001")
        other = Caps.read(heads[0] + "|11111110")
        self.same((80,), not_within, rule=rule, other=other)
        self.same(False, is_within, rule=rule, other=other)
        self.same(True, is_within, rule=Caps.read("|0"), other=other)
        self.same(True, is_within, rule=Bans(tuple((k,) for k in range(1, 7))), other=Caps.read("*" * 6 + "|*"))
        self.same(True, is_within, rule=Bans(((7, 7),)), other=Caps.read("******1|*"))
        self.same(True, is_within, rule=Caps.read("******1|*"), other=Bans(((7, 7),)))
        self.same(None, not_within, rule=Caps.read("******1|*"), other=Bans(((7, 7),)))
        self.same((40,), not_within, rule=Bans(()), other=Bans(((40,),)))

    def test_by_all_rows(self):
        lots = random.Random(8)
        for _ in range(150):
            rule, other = random_bans(lots, Bans, 4), random_bans(lots, Bans, 4)
            self.assertEqual(is_within(rule, other), all(lets(other, row) for row in SMALL if lets(rule, row)))

    def test_wrong(self):
        for function in (is_within, not_within, both):
            self.fails_in_order(function, ("rule", UNLIKE, given(NotARule, NOT_RULES)),
                                ("other", FEW, given(NotARule, NOT_RULES)))


class Both(Case):
    def test_caps(self):
        for text, other, expected in (("|1", "|*0", "|10"), ("|*", "|*", "|*"), ("|01", "|10", "|0"),
                                      ("3*|*", "|2", "|2"), ("11|*", "0|*", "01|*"), ("|12", "|3", "|12"),
                                      ("|*0**0***", "|0", "|0"), ("|*11", "|1", "|1"), ("*|1", "2|*", "2|1")):
            rule = both(Caps.read(text), Caps.read(other))
            self.assertIs(type(rule), Caps)
            self.assertEqual(str(rule), expected)
            self.assertEqual(str(both(rule=Caps.read(other), other=Caps.read(text))), expected)

    def test_caps_of_all_sizes(self):
        lots = random.Random(9)
        for _ in range(300):
            rule, other = random_caps(lots, Caps, 24), random_caps(lots, Caps, 24)
            least = []
            for size in range(1, 200):
                caps = [cap for cap in (rule.cap(size), other.cap(size)) if cap is not None]
                least.append(min(caps) if caps else None)
            lengths = [(tail, head) for tail in range(1, 57) for head in range(25)
                       if all(least[at] == least[at + tail] for at in range(head, 199 - tail))]
            tail, head = min(lengths)
            if tail > 8:
                self.fails(TooMany, "given", tail, both, rule, other)
                self.fails(TooMany, "given", tail, both, other=other, rule=rule)
            else:
                found = both(rule, other)
                self.assertEqual([found.cap(size) for size in range(1, 200)], least)
                self.assertEqual((len(found.tail), len(found.head)), (tail, head))

    def test_tail_too_long(self):
        self.fails(TooMany, "given", 56, both, Caps.read("|*******1"), Caps.read("|******0"))
        self.fails(TooMany, "given", 12, both, Caps.read("|***1"), Caps.read("|**0"))
        self.fails(TooMany, "given", 10, both, Caps.read("|*1"), Caps.read("|****0"))
        self.assertEqual(str(both(Caps.read("|*1"), Caps.read("|*******0"))), "|*1*1*1*0")

    def test_bans(self):
        for text, other, expected in (("2+1 3", "none", "2+1 3"), ("none", "none", "none"), ("2+1 3", "1", "1 3"),
                                      ("2+1 2+2+1", "5", "2+1 5"), ("1 2 3", "4 5 6", "1 2 3 4 5 6"),
                                      ("1+1 2 3 4", "1 5 6", "1 2 3 4 5 6")):
            rule, more = Bans.read(text), Bans.read(other)
            found = both(rule, more)
            self.assertIs(type(found), Bans)
            self.assertEqual(str(found), expected)
            self.assertEqual(str(both(other=rule, rule=more)), expected)

    def test_too_many_bans(self):
        self.fails(TooMany, "given", 7, both, Bans.read("1 2 3 4"), Bans.read("4 5 6 7"))
        self.fails(TooMany, "given", 12, both, Bans.read("1 2 3 4 5 6"), Bans.read("7 8 9 10 11 12"))
        self.assertEqual(len(both(Bans.read("1 2 3 4 5 6"), Bans.read("1+1 2+2 3+3 4+4 5+5 6+6")).bans), 6)

    def test_lets_what_both_let(self):
        lots = random.Random(10)
        for _ in range(100):
            rule, other = random_bans(lots, Bans, 5), random_bans(lots, Bans, 5)
            try:
                found = both(rule, other)
            except TooMany as error:
                self.assertGreater(error.given, 6)
                continue
            self.assertTrue(found == found.lean())
            for row in SMALL:
                self.assertEqual(lets(found, row), lets(rule, row) and lets(other, row))

    def test_unlike_kinds(self):
        self.same(None, both, rule=UNLIKE, other=FEW)
        self.same(None, both, rule=FEW, other=UNLIKE)


if __name__ == "__main__":
    unittest.main()
