import random
import unittest

from letparts.counts import counts
from letparts.desks import Desk, played
from letparts.errors import (
    Broken, InUse, InvalidLog, InvalidName, InvalidNumber, InvalidWish, NotARule, NothingToUndo, UnknownName)
from letparts.listed import let_rows
from letparts.rules import Bans, Caps, from_rule_text
from tests.helpers import ANY, NOT_INTEGERS, NOT_ROWS, OTHER_KINDS, Case, given, index, listed_rows, slow_lets

UNLIKE = Caps((), (1,))
ODD = Caps((), (None, 0))
FEW = Bans(((2, 1), (3,)))
NOT_RULES = NOT_INTEGERS + (0, 2, -1, "|1", "none", (2, 1), ((), (1,)), Caps, Bans)
NOT_NAMES = NOT_INTEGERS + (0, 1, -1, "", "abcdefghi", "A", "aB", "a1", "a b", " a", "a ", "a-", "a_", "a\n", "yard.", "`", "{")
TEXTS = ("|1", "|*0", "|2", "|*", "|0", "2+1 3", "1+1+1 3", "none", "1 1+1", "0|*", "1 2", "00|*", "|1*", "3", "2|*")
RULES = [from_rule_text(text) for text in TEXTS]
NAMES = ("a", "yard", "hall", "zzzzzzzz")
WISHES_ABOUT = (("lets", (2, 1)), ("lets", ()), ("bars", (3,)), ("bars", (1, 1)), ("counts", 4, 2), ("counts", 9, 8),
                ("counts", 0, 1), ("least", 6, 4), ("least", 5, 0), ("most", 6, 4), ("most", 7, 10 ** 90),
                ("like", "|1"), ("like", "2+1 3"), ("like", "2*0|*"), ("like", "|*"), ("like", "none"))
NOT_WISHES = OTHER_KINDS + (
    0, 2, (), ("lets",), ((2, 1),), ("lets", (2, 1), 3), ("lets", (1, 2)), ("lets", [2, 1]), ("lets", (601,)),
    ("lets", None), ("bars",), ("bars", 3), ("bars", (True,)), ("let", (2, 1)), ("LETS", (2, 1)), ("", (2, 1)),
    (b"lets", (2, 1)), (True, (2, 1)), (None, (2, 1)), ([], (2, 1)), ("counts", 9), ("counts", 9, 8, 7),
    ("counts", 61, 8), ("counts", -1, 8), ("counts", 9, -1), ("counts", True, 8), ("counts", 9, False),
    ("counts", "9", 8), ("counts", 9, None), ("least", 61, 0), ("least", 9, -1), ("most", 61, 0), ("most", None, 1),
    ("counts", (9,), 8), ("least", 9), ("most", 9, (1,)), ("like",), ("like", "|"), ("like", UNLIKE), ("like", "|7"),
    ("like", "1+2"), ("like", "|1", "|1"), ("like", None), ("like", ("|1",)), ["lets", (2, 1)], "lets",
    ("lets", 9, 8), ("like", 9, 8), ("counts", (2, 1)), ("like", (2, 1)), ("lets", "|1"), ("within", "a", "a"))


def within(rule, other):
    return all(slow_lets(other, row) for number in range(10) for row in listed_rows(number) if slow_lets(rule, row))


def holds(promise, rules):
    """Whether a promise holds, by going through rows."""
    if len(promise) == 3:
        word, one, other = promise
        if word == "within":
            return within(rules[one], rules[other])
        return counts(rules[one], 300) == counts(rules[other], 300)
    name, wish = promise
    rule = rules[name]
    if wish[0] in ("lets", "bars"):
        return slow_lets(rule, wish[1]) is (wish[0] == "lets")
    if wish[0] == "like":
        return counts(rule, 300) == counts(from_rule_text(wish[1]), 300)
    many = sum(slow_lets(rule, row) for row in listed_rows(wish[1]))
    return {"counts": many == wish[2], "least": many >= wish[2], "most": many <= wish[2]}[wish[0]]


def shown(desk):
    """All that a desk shows."""
    return (desk.names, [str(desk.named(name)) for name in desk.names], desk.promises, desk.changes, desk.log, len(desk))


class Desks(Case):
    def refused(self, desk, error, name, value, deed, *passed):
        """A deed is refused, and then everything is as before."""
        before = shown(desk)
        self.fails(error, name, value, getattr(desk, deed), *passed)
        self.assertEqual(shown(desk), before)

    def test_objects(self):
        desk = Desk()
        self.assertEqual(shown(desk), ((), [], (), 0, (), 0))
        self.assertTrue(desk)
        self.assertIs(bool(desk), True)
        desk.put("a", UNLIKE)
        self.assertIs(bool(desk), True)
        self.assertTrue(desk == desk)
        for other in (Desk(), played(desk.log), None, 1, ANY, ()):
            self.assertFalse(desk == other)
            self.assertTrue(desk != other)
        self.refused(Desk(), NothingToUndo, None, None, "undo")

    def test_names(self):
        desk = Desk()
        for count, name in enumerate(("zzzzzzzz", "a", "yard", "abcdefgh", "z"), start=1):
            self.assertIsNone(desk.put(name, ODD))
            self.assertEqual((len(desk), desk.changes), (count, count))
            self.assertIs(desk.named(name), ODD)
            self.assertIs(desk.named(name=name), ODD)
        self.assertEqual(desk.names, ("a", "abcdefgh", "yard", "z", "zzzzzzzz"))
        self.fails_in_order(desk.put, ("name", "a", given(InvalidName, NOT_NAMES)),
                            ("rule", UNLIKE, given(NotARule, NOT_RULES)))
        for deed in ("named", "drop"):
            for name in NOT_NAMES + ("b", "yards", "abcdefghi", UNLIKE):
                self.refused(desk, UnknownName, "given", name, deed, name)
            self.fails(UnknownName, "given", "b", getattr(desk, deed), name="b")
        self.assertIsNone(desk.put(rule=FEW, name="a"))
        self.assertIs(desk.named("a"), FEW)
        self.assertEqual((len(desk), desk.log[-1]), (5, ("put", "a", "2+1 3")))

    def test_put_drop_and_undo(self):
        desk = Desk()
        desk.put("yard", UNLIKE)
        desk.put("yard", UNLIKE)
        desk.put("yard", Caps((1, 1), (1, 1)))
        self.assertEqual(desk.log, (("put", "yard", "|1"), ("put", "yard", "|1"), ("put", "yard", "11|11")))
        self.assertIsNone(desk.drop("yard"))
        self.assertEqual(shown(desk)[:2], ((), []))
        self.assertEqual((desk.changes, desk.log[-1]), (4, ("drop", "yard")))
        self.fails(UnknownName, "given", "yard", desk.named, "yard")
        for text in ("11|11", "|1", "|1"):
            self.assertIsNone(desk.undo())
            self.assertEqual(str(desk.named("yard")), text)
        self.assertEqual(desk.changes, 1)
        desk.drop(name="yard")
        self.assertEqual(desk.log, (("put", "yard", "|1"), ("drop", "yard")))
        desk.undo()
        desk.undo()
        self.assertEqual(shown(desk), shown(Desk()))
        self.refused(desk, NothingToUndo, None, None, "undo")

    def test_all_wishes(self):
        for text, rule in zip(TEXTS, RULES):
            for wish in WISHES_ABOUT:
                desk = Desk()
                desk.put("a", rule)
                if holds(("a", wish), {"a": rule}):
                    self.assertIsNone(desk.promise(("a", wish)))
                    self.assertEqual((desk.promises, desk.log[-1]), ((("a", wish),), ("promise", ("a", wish))))
                else:
                    self.refused(desk, Broken, "index", 0, "promise", ("a", wish))
            for other_text, other in zip(TEXTS, RULES):
                for word in ("within", "alike"):
                    desk = Desk()
                    desk.put("a", rule)
                    desk.put("b", other)
                    desk.promise(("a", ("least", 0, 1)))
                    promise = (word, "a", "b")
                    if holds(promise, {"a": rule, "b": other}):
                        self.assertIsNone(desk.promise(wish=promise))
                        self.assertEqual(desk.promises, (("a", ("least", 0, 1)), promise))
                    else:
                        self.refused(desk, Broken, "index", 1, "promise", promise)

    def test_wishes_at_their_bounds(self):
        desk = Desk()
        desk.put("a", UNLIKE)
        many = len([row for row in listed_rows(24) if len(set(row)) == len(row)])
        self.assertEqual(len(let_rows(UNLIKE, 24)), many)
        sixty = counts(UNLIKE, 60)[60]
        for number, exact in ((24, many), (60, sixty), (0, 1)):
            for word, more in (("counts", 0), ("least", 0), ("least", -1), ("most", 0), ("most", 1)):
                desk.promise(("a", (word, number, exact + more)))
            for word, more in (("counts", 1), ("counts", -1), ("least", 1), ("most", -1)):
                self.refused(desk, Broken, "index", len(desk.promises), "promise", ("a", (word, number, exact + more)))
        self.refused(desk, InvalidWish, "given", ("a", ("counts", 61, 0)), "promise", ("a", ("counts", 61, 0)))
        desk.promise(("a", ("lets", (600,))))
        desk.promise(("a", ("bars", (1,) * 600)))
        # The same promise once more is one more.
        desk.promise(("a", ("lets", (600,))))
        self.assertEqual(desk.promises[-1], desk.promises[-3])

    def test_wrong_wishes(self):
        desk = Desk()
        desk.put("yard", UNLIKE)
        right = ("yard", ("lets", (2, 1)))
        wrong = OTHER_KINDS + (0, 1, -1, (), ("yard",), ("yard", ("lets", (2, 1)), 1), ["yard", ("lets", (2, 1))],
                               ("within", "yard"), ("within", "yard", "yard", "yard"), ("Within", "yard", "yard"),
                               ("", "yard", "yard"), (None, "yard", "yard"), (True, "yard", "yard"),
                               ([], "yard", "yard"), ("counts", "yard", "yard"), ("like", "yard", "|1"),
                               ("alike", ["yard"], "yard"), ("alike", "yard", {}), ("within", [], "b"),
                               (["yard"], ("lets", (2, 1))), ({}, ("lets", (2, 1))), ("lets", "yard", (2, 1)),
                               (("lets", (2, 1)), "yard"), "yard", ("yard", "yard"), ("alike", "yard"))
        self.fails_in_order(desk.promise, ("wish", right, given(InvalidWish, wrong)))
        for wish in NOT_WISHES:
            self.refused(desk, InvalidWish, "given", ("yard", wish), "promise", ("yard", wish))
            self.refused(desk, InvalidWish, "given", ("b", wish), "promise", ("b", wish))
        for row in NOT_ROWS:
            self.refused(desk, InvalidWish, "given", ("yard", ("bars", row)), "promise", ("yard", ("bars", row)))
        for name in NOT_NAMES + ("b", UNLIKE, (["yard"],)):
            if isinstance(name, (list, dict)):
                continue
            for wish in ((name, ("lets", (2, 1))), ("within", name, "yard"), ("alike", "yard", name),
                         ("within", name, "c"), (name, ("bars", (2, 1))), ("alike", name, name)):
                self.refused(desk, UnknownName, "given", name, "promise", wish)
        self.refused(desk, UnknownName, "given", "hall", "promise", ("within", "hall", "barn"))
        self.refused(desk, Broken, "index", 0, "promise", ("yard", ("bars", (2, 1))))
        self.assertIsNone(desk.promise(right))

    def test_first_broken_and_in_use(self):
        desk = Desk()
        desk.put("yard", UNLIKE)
        desk.put("hall", ODD)
        desk.put("barn", FEW)
        for promise in (("barn", ("bars", (3,))), ("hall", ("lets", (3, 3))), ("alike", "hall", "yard"),
                        ("yard", ("counts", 9, 8)), ("within", "yard", "yard"), ("hall", ("bars", (2,)))):
            desk.promise(promise)
        self.refused(desk, Broken, "index", 2, "put", "yard", FEW)
        self.refused(desk, Broken, "index", 1, "put", "hall", UNLIKE)
        self.refused(desk, Broken, "index", 2, "put", "hall", Caps((), (None,)))
        self.refused(desk, Broken, "index", 0, "put", "barn", UNLIKE)
        self.refused(desk, InUse, "index", 0, "drop", "barn")
        self.refused(desk, InUse, "index", 1, "drop", "hall")
        self.refused(desk, InUse, "index", 2, "drop", "yard")
        desk.put("yard", ODD)
        self.refused(desk, Broken, "index", 6, "promise", ("yard", ("lets", (2,))))
        self.assertIsNone(desk.lift(2))
        self.refused(desk, Broken, "index", 2, "put", "yard", FEW)
        self.refused(desk, InUse, "index", 2, "drop", "yard")
        desk.lift(index=2)
        desk.put("yard", FEW)
        self.refused(desk, InUse, "index", 2, "drop", "yard")
        desk.lift(2)
        desk.drop("yard")
        self.assertEqual(desk.promises, (("barn", ("bars", (3,))), ("hall", ("lets", (3, 3))), ("hall", ("bars", (2,)))))
        self.assertEqual(desk.log[-5:], (("lift", 2), ("lift", 2), ("put", "yard", "2+1 3"), ("lift", 2), ("drop", "yard")))
        desk.undo()
        desk.undo()
        self.assertEqual(desk.promises[2], ("within", "yard", "yard"))
        for wrong in NOT_INTEGERS + (-1, -3, 4, 60, 10 ** 99):
            self.refused(desk, InvalidNumber, "given", wrong, "lift", wrong)
        self.fails(InvalidNumber, "given", 0, Desk().lift, 0)
        self.fails(InvalidNumber, "given", -1, Desk().lift, index=-1)

    def test_drawn_changes(self):
        lots = random.Random(151)
        for _ in range(25):
            desk = Desk()
            rules = [{}]
            promises = [()]
            for _ in range(40):
                self.drawn_change(lots, desk, rules, promises)
                self.assertEqual(desk.names, tuple(sorted(rules[-1])))
                self.assertTrue(all(desk.named(name) is rules[-1][name] for name in desk.names))
                self.assertEqual((desk.promises, desk.changes, len(desk)), (promises[-1], len(rules) - 1, len(rules[-1])))
                self.assertTrue(all(holds(promise, rules[-1]) for promise in desk.promises))
            again = played(desk.log)
            self.assertEqual(shown(again), shown(desk))
            self.assertEqual(shown(played(again.log)), shown(desk))
            while desk.changes:
                self.assertIsNone(again.undo())
                desk.undo()
                self.assertEqual(shown(again), shown(desk))
                self.assertEqual(shown(played(log=desk.log)), shown(desk))
            self.assertEqual(shown(desk), shown(Desk()))

    def drawn_change(self, lots, desk, rules, promises):
        """Tries any change at a desk, and does it to what the desk has to show, too, if it can be done."""
        kind = lots.choice(("put", "put", "drop", "promise", "promise", "promise", "lift", "undo"))
        name = lots.choice(NAMES)
        now = rules[-1]
        using = [at for at, promise in enumerate(promises[-1]) if name in promise]
        if kind == "put":
            after = dict(now)
            after[name] = lots.choice(RULES)
            broken = [at for at, promise in enumerate(promises[-1]) if not holds(promise, after)]
            if broken:
                self.refused(desk, Broken, "index", broken[0], "put", name, after[name])
                return
            desk.put(name, after[name])
            rules.append(after)
            promises.append(promises[-1])
        elif kind == "drop":
            if name not in now:
                self.refused(desk, UnknownName, "given", name, "drop", name)
            elif using:
                self.refused(desk, InUse, "index", using[0], "drop", name)
            else:
                desk.drop(name)
                rules.append({other: rule for other, rule in now.items() if other != name})
                promises.append(promises[-1])
        elif kind == "promise":
            promise = lots.choice(((name, lots.choice(WISHES_ABOUT)), ("within", name, lots.choice(NAMES)),
                                   ("alike", name, lots.choice(NAMES))))
            unknown = [one for one in ((name,) if len(promise) == 2 else promise[1:]) if one not in now]
            if unknown:
                self.refused(desk, UnknownName, "given", unknown[0], "promise", promise)
            elif not holds(promise, now):
                self.refused(desk, Broken, "index", len(promises[-1]), "promise", promise)
            else:
                desk.promise(promise)
                rules.append(now)
                promises.append(promises[-1] + (promise,))
        elif kind == "lift" and promises[-1]:
            at = lots.randrange(len(promises[-1]))
            desk.lift(at)
            rules.append(now)
            promises.append(promises[-1][:at] + promises[-1][at + 1:])
        elif kind == "undo" and len(rules) > 1:
            desk.undo()
            rules.pop()
            promises.pop()


class Logs(Case):
    LOG = (("put", "yard", "|1"), ("put", "hall", "2+1 3"), ("promise", ("yard", ("bars", (1, 1)))),
           ("promise", ("within", "hall", "hall")), ("put", "hall", "none"), ("lift", 1), ("drop", "hall"))

    def test_played(self):
        desk = played(self.LOG)
        self.assertEqual(shown(desk), (("yard",), ["|1"], (("yard", ("bars", (1, 1))),), 7, self.LOG, 1))
        self.assertEqual(shown(played(())), shown(Desk()))
        self.assertIsNot(played(()), played(()))
        for length in range(8):
            self.assertEqual(played(self.LOG[:length]).log, self.LOG[:length])

    def test_wrong_logs(self):
        for value in OTHER_KINDS + (1, 0, "put", [("put", "a", "|1")], {"put": 1}):
            self.fails(InvalidLog, "index", None, played, value)
            self.fails(InvalidLog, "index", None, played, log=value)
        wrong = OTHER_KINDS + (
            0, 1, (), ("put",), ("put", "a"), ("put", "a", "|1", 1), ("Put", "a", "|1"), ("undo",), ("drop",),
            ("drop", "a", "b"), ("drop", "a"), ("drop", ["yard"]), ("promise",), ("promise", None),
            ("promise", ("a", ("lets", (2, 1)))), ("promise", ("within", "yard", [])), ("lift",), ("lift", 9),
            ("lift", True), ("lift", -1), ("lift", "1"), ("lift", None), ("put", "A", "|1"), ("put", "a", "|"),
            ("put", "a", None), ("put", "a", UNLIKE), ("put", "abcdefghi", "|1"), ("put", ["a"], "|1"), (None, "a"),
            (["drop"], "a"), (True, 0), ["lift", 0], ("drop", "a b"), ("put", "a", "1+2"), (b"drop", "yard"),
            ("promise", ("yard", ("lets", (1, 1)))), ("put", "yard", "1 1|"))
        for at in range(1, len(self.LOG) + 1):
            for value in wrong:
                self.fails(InvalidLog, "index", at, played, self.LOG[:at] + (value,) + self.LOG[at:])
                self.fails(InvalidLog, "index", at, played, self.LOG[:at] + (value, value))
        for value in wrong:
            self.fails(InvalidLog, "index", 0, played, (value,) + self.LOG)
        self.fails_in_order(played, ("log", self.LOG, index(
            InvalidLog, (self.LOG + (("drop", "yard"),), 7), (self.LOG[1:], 1), (self.LOG[:5] + (("lift", 2),), 5),
            (self.LOG[:4] + (("drop", "hall"),), 4), (self.LOG[:3] + (("put", "yard", "|2"),), 3))))


class Stop(Exception):
    """What the tests end trials with."""


class Trials(Case):
    def test_ends_with_an_exception(self):
        desk = Desk()
        desk.put("a", UNLIKE)
        desk.promise(("a", ("lets", (2, 1))))
        before = shown(desk)
        for error in (Stop, KeyboardInterrupt, GeneratorExit, LookupError):
            raised = error()
            with self.assertRaises(error) as caught:
                with desk.trial() as held:
                    self.assertIs(held, desk)
                    held.put("b", ODD)
                    held.undo()
                    held.undo()
                    held.undo()
                    held.put("c", FEW)
                    self.assertEqual(held.names, ("c",))
                    with held.trial():
                        held.drop("c")
                    raise raised
            self.assertIs(caught.exception, raised)
            self.assertEqual(shown(desk), before)
        with self.assertRaises(Broken):
            with desk.trial():
                desk.put("b", ODD)
                desk.put("a", Bans(((2, 1),)))
        self.assertEqual(shown(desk), before)

    def test_ends_otherwise(self):
        desk = Desk()
        with desk.trial():
            desk.put("a", UNLIKE)
            with self.assertRaises(Stop):
                with desk.trial():
                    desk.put("b", ODD)
                    with desk.trial():
                        desk.put("c", ODD)
                    raise Stop
            desk.put("d", FEW)
        self.assertEqual((desk.names, desk.changes), (("a", "d"), 2))
        trial = desk.trial()
        desk.drop("d")
        with self.assertRaises(Stop):
            with trial:
                desk.undo()
                raise Stop
        self.assertEqual((desk.names, desk.changes), (("a",), 3))

    def test_tried(self):
        desk = Desk()
        self.assertEqual(desk.tried(lambda held: (held is desk, held.put("a", ODD), len(held))), (True, None, 1))

        def failing(held):
            held.put("b", ODD)
            held.drop("a")
            held.named("a")
        before = shown(desk)
        self.fails(UnknownName, "given", "a", desk.tried, action=failing)
        self.assertEqual(shown(desk), before)
        self.assertIsNone(desk.tried(Desk.undo))
        self.assertEqual(shown(desk), shown(Desk()))


if __name__ == "__main__":
    unittest.main()
