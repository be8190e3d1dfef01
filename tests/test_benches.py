import random
import unittest

from letparts.benches import Bench
from letparts.errors import (
    InvalidNumber, InvalidPart, InvalidRow, NoSuchPart, NotAlike, NotCaps, NothingToUndo, NotLet, NotOdd, NotUnlike,
    TooMany)
from letparts.exchange import exchanged
from letparts.games import rims
from letparts.heaps import dealt
from letparts.rods import strikes
from letparts.rows import turned
from letparts.rules import Bans, Caps
from letparts.splitting import fished, merged, split
from letparts.turns import turned_over
from letparts.vectors import raises
from tests.helpers import ANY, NOT_INTEGERS, NOT_ROWS, Case, given, random_row

UNLIKE = Caps((), (1,))
ODD = Caps((), (None, 0))
NOT_CAPS = NOT_INTEGERS + (0, 2, -1, "|1", "none", (2, 1), Bans(()), Bans(((2, 1),)), Caps, UNLIKE.head)
NOT_RODS = NOT_INTEGERS + (-1, 0, 1, 10, 400)
DEEDS = ("put", "take", "turn", "deal", "turn_over", "strike", "exchange", "split", "merge", "fish", "lift", "rim")


def unlike(row):
    return len(set(row)) == len(row)


def odd(row):
    return all(part % 2 for part in row)


def drawn_deed(lots, row):
    """Any deed that can be done at a row: its name, what is passed by name, and the row behind it; None if it can't."""
    deed = lots.choice(DEEDS)
    base = lots.randint(2, 9)
    if deed == "put":
        part = lots.randint(1, 9)
        return (deed, {"part": part}, tuple(sorted(row + (part,))[::-1])) if sum(row) + part <= 600 else None
    if deed == "take":
        part = lots.choice(row) if row else None
        at = row.index(part) if row else None
        return (deed, {"part": part}, row[:at] + row[at + 1:]) if row else None
    if deed == "exchange":
        for rule, other in ((UNLIKE, ODD), (ODD, UNLIKE)):
            if (unlike if rule is UNLIKE else odd)(row) and sum(row) <= 60:
                return deed, {"rule": rule, "other": other}, exchanged(row, rule, other)
        return None
    if deed in ("strike", "lift", "rim"):
        reached = strikes(row, base) if deed == "strike" else raises(row, base) if deed == "lift" else rims(row)
        lower = lots.choice(reached) if reached else None
        return (deed, {"row": lower, **({"rods": base} if deed != "rim" else {})}, lower) if reached else None
    if deed in ("split", "merge"):
        return deed, {"base": base}, (split if deed == "split" else merged)(row, base)
    if deed == "turn_over" and not unlike(row) or deed == "fish" and not odd(row):
        return None
    return deed, {}, {"turn": turned, "deal": dealt, "turn_over": turned_over, "fish": fished}[deed](row)


class Benches(Case):
    def stands(self, bench, rows):
        """The bench shows the last of these rows, and so many changes as lie between them."""
        self.assertEqual((bench.now, bench.changes), (rows[-1], len(rows) - 1))
        self.assertIs(type(bench.now), tuple)

    def refused(self, bench, error, name, value, deed, *passed):
        """A deed is refused, and then everything is as before."""
        before = (bench.now, bench.changes)
        self.fails(error, name, value, getattr(bench, deed), *passed)
        self.assertEqual((bench.now, bench.changes), before)

    def test_many_deeds(self):
        lots = random.Random(141)
        done = set()
        for start in ((), (1,), (4, 4, 1), (7, 5, 3, 1), (12, 9, 4, 2)):
            bench = Bench(start)
            rows = [start]
            while len(rows) < 120:
                if sum(rows[-1]) > 45:
                    drawn = ("take", {"part": rows[-1][0]}, rows[-1][1:])
                else:
                    drawn = drawn_deed(lots, rows[-1])
                if drawn is None:
                    continue
                deed, named, row = drawn
                done.add(deed)
                passed = list(named.values())
                self.assertIsNone(getattr(bench, deed)(*passed) if lots.random() < 0.5
                                  else getattr(bench, deed)(**dict(reversed(list(named.items())))))
                rows.append(row)
                self.stands(bench, rows)
                if lots.random() < 0.1:
                    self.assertIsNone(bench.undo())
                    rows.pop()
                    self.stands(bench, rows)
            while len(rows) > 1:
                self.assertIsNone(bench.undo())
                rows.pop()
                self.stands(bench, rows)
            self.refused(bench, NothingToUndo, None, None, "undo")
        self.assertEqual(done, set(DEEDS))

    def test_changes_by_which_nothing_becomes_other(self):
        bench = Bench((1,))
        for count, deed in enumerate(("turn", "deal", "turn_over", "fish"), start=1):
            getattr(bench, deed)()
            self.stands(bench, [(1,)] * (count + 1))
        bench.merge(9)
        bench.split(9)
        bench.exchange(UNLIKE, UNLIKE)
        self.stands(bench, [(1,)] * 8)
        for left in range(7, 0, -1):
            bench.undo()
            self.stands(bench, [(1,)] * left)
        self.refused(bench, NothingToUndo, None, None, "undo")

    def test_objects(self):
        bench = Bench((4, 4, 1))
        self.assertEqual(Bench(row=(4, 4, 1)).now, (4, 4, 1))
        self.assertTrue(bench == bench)
        for other in (Bench((4, 4, 1)), (4, 4, 1), None, ANY, 1):
            self.assertFalse(bench == other)
            self.assertTrue(bench != other)
        self.assertTrue(bench)
        self.assertTrue(Bench(()))
        self.fails_in_order(Bench, ("row", (2, 1), given(InvalidRow, NOT_ROWS)))

    def test_great_and_empty_rows(self):
        bench = Bench((600,))
        for part in (1, 600, 10 ** 99):
            self.refused(bench, TooMany, "given", 600 + part, "put", part)
        self.refused(bench, TooMany, "given", 602, "lift", (1,), 2)
        self.refused(bench, TooMany, "given", 600, "rim", ())
        self.refused(bench, TooMany, "given", 600, "exchange", UNLIKE, ODD)
        bench.strike((598,), 2)
        self.refused(bench, TooMany, "given", 601, "put", 3)
        bench.put(2)
        bench.deal()
        bench.turn()
        self.stands(bench, [None] * 4 + [turned((597, 2, 1))])
        bench.turn()
        bench.take(597)
        self.stands(bench, [None] * 6 + [(2, 1)])
        empty = Bench(())
        for deed in ("turn", "deal", "turn_over", "fish"):
            getattr(empty, deed)()
        empty.split(2)
        empty.merge(9)
        empty.exchange(UNLIKE, ODD)
        self.stands(empty, [()] * 8)
        self.refused(empty, NoSuchPart, "given", 0, "take", 0)
        self.refused(empty, NotLet, "given", (), "strike", (), 2)
        self.refused(empty, NotLet, "given", (), "rim", ())
        self.refused(empty, NotLet, "given", (2, 1), "lift", (2, 1), 2)
        empty.lift((1, 1), 2)
        empty.rim((1,))
        self.stands(empty, [()] * 8 + [(1, 1), (1,)])
        full = Bench((598,))
        full.lift((600,), 2)
        self.stands(full, [(598,), (600,)])
        edge = Bench((60,))
        edge.rim((1,))
        edge.put(60)
        self.refused(edge, TooMany, "given", 61, "rim", (60,))
        self.refused(edge, TooMany, "given", 61, "exchange", UNLIKE, ODD)

    def test_wrong_parts(self):
        bench = Bench((3, 1))
        for part in NOT_INTEGERS + (0, -1, -3, -10 ** 99):
            self.refused(bench, InvalidPart, "given", part, "put", part)
        for part in NOT_INTEGERS + (0, -1, 2, 4, -3, 10 ** 99):
            self.refused(bench, NoSuchPart, "given", part, "take", part)
        self.fails(InvalidPart, "given", True, bench.put, part=True)
        self.fails(NoSuchPart, "given", True, bench.take, part=True)

    def test_wrong_rows(self):
        bench = Bench((4, 4, 1))
        for deed in ("strike", "lift"):
            function = getattr(bench, deed)
            self.fails_in_order(function, ("row", strikes((4, 4, 1), 3)[0], given(InvalidRow, NOT_ROWS)),
                                ("rods", 3, given(InvalidNumber, NOT_RODS)))
            for row in ((), (4, 4, 1), (3, 2, 1, 1, 1), (600,), (4, 3, 1)):
                self.refused(bench, NotLet, "given", row, deed, row, 3)
        self.fails_in_order(bench.rim, ("row", (4, 4), given(InvalidRow, NOT_ROWS)))
        for row in ((4, 4, 1), (5, 3, 1), (600,), (2, 2, 2, 2)):
            self.refused(bench, NotLet, "given", row, "rim", row)
        great = Bench((61,))
        self.fails(InvalidRow, "given", 5, great.rim, 5)
        great = Bench((599,))
        self.refused(great, InvalidRow, "given", 5, "lift", 5, 2)
        self.refused(great, InvalidNumber, "given", 1, "lift", (5,), 1)
        self.refused(great, TooMany, "given", 601, "lift", (5,), 2)
        self.stands(bench, [(4, 4, 1)])

    def test_wrong_rules_and_bases(self):
        bench = Bench((4, 4, 1))
        self.fails_in_order(bench.exchange, ("rule", UNLIKE, given(NotCaps, NOT_CAPS)),
                            ("other", ODD, given(NotCaps, NOT_CAPS)))
        self.refused(bench, NotAlike, "given", 2, "exchange", UNLIKE, Caps((), (2,)))
        self.refused(bench, NotLet, "given", (4, 4, 1), "exchange", UNLIKE, ODD)
        for deed in ("split", "merge"):
            self.fails_in_order(getattr(bench, deed), ("base", 2, given(InvalidNumber, NOT_RODS)))
        self.refused(bench, NotOdd, "given", (4, 4, 1), "fish")
        self.refused(bench, NotUnlike, "given", (4, 4, 1), "turn_over")
        self.stands(bench, [(4, 4, 1)])


class Stop(Exception):
    """What the tests end trials with."""


class Trials(Case):
    def test_ends_with_an_exception(self):
        for error in (Stop, KeyboardInterrupt, GeneratorExit, ValueError):
            bench = Bench((2, 1))
            bench.put(5)
            raised = error()
            with self.assertRaises(error) as caught:
                with bench.trial() as held:
                    self.assertIs(held, bench)
                    held.put(7)
                    held.undo()
                    held.undo()
                    held.turn()
                    self.assertEqual((bench.now, bench.changes), ((2, 1), 1))
                    raise raised
            self.assertIs(caught.exception, raised)
            self.assertEqual((bench.now, bench.changes), ((5, 2, 1), 1))
            bench.undo()
            self.assertEqual((bench.now, bench.changes), ((2, 1), 0))

    def test_ends_otherwise(self):
        bench = Bench((2, 1))
        with bench.trial() as held:
            held.put(7)
        self.assertEqual((bench.now, bench.changes), ((7, 2, 1), 1))
        for _ in range(3):
            with bench.trial():
                bench.put(1)
                break
        self.assertEqual((bench.now, bench.changes), ((7, 2, 1, 1), 2))

        def ended():
            with bench.trial() as again:
                again.undo()
                return again.now
        self.assertEqual((ended(), bench.changes), ((7, 2, 1), 1))
        with self.assertRaises(NoSuchPart):
            with bench.trial():
                bench.take(2)
                bench.take(2)
        self.assertEqual((bench.now, bench.changes), ((7, 2, 1), 1))

    def test_a_call_alone_changes_nothing(self):
        bench = Bench((2, 1))
        trial = bench.trial()
        bench.put(3)
        self.assertEqual((bench.now, bench.changes), ((3, 2, 1), 1))
        with self.assertRaises(Stop):
            with trial:
                bench.put(4)
                raise Stop
        # As it was when the rows began, not when the trial was called for.
        self.assertEqual((bench.now, bench.changes), ((3, 2, 1), 1))
        with trial as held:
            held.put(4)
        with self.assertRaises(Stop):
            with trial:
                bench.put(5)
                with trial:
                    bench.put(6)
                with self.assertRaises(Stop):
                    with trial:
                        bench.put(8)
                        raise Stop
                self.assertEqual(bench.now, (6, 5, 4, 3, 2, 1))
                raise Stop
        self.assertEqual((bench.now, bench.changes), ((4, 3, 2, 1), 2))

    def nested(self, bench, depth, ends):
        """A trial within a trial and so on; `ends` tells which of them end with an exception."""
        with bench.trial():
            bench.put(depth)
            if depth < len(ends):
                try:
                    self.nested(bench, depth + 1, ends)
                except Stop:
                    bench.put(20 + depth)
            bench.put(10 + depth)
            if ends[depth - 1]:
                raise Stop

    def expected(self, depth, ends):
        """The parts that the trials from a depth on leave, and whether they end with an exception."""
        parts = [depth]
        if depth < len(ends):
            left, stopped = self.expected(depth + 1, ends)
            parts += [20 + depth] if stopped else left
        return ([] if ends[depth - 1] else parts + [10 + depth]), ends[depth - 1]

    def test_trials_within_trials(self):
        for choice in range(32):
            ends = [bool(choice >> at & 1) for at in range(5)]
            bench = Bench((30, 29))
            bench.put(28)
            if ends[0]:
                with self.assertRaises(Stop):
                    self.nested(bench, 1, ends)
            else:
                self.nested(bench, 1, ends)
            parts = [30, 29, 28] + self.expected(1, ends)[0]
            self.assertEqual(bench.now, tuple(sorted(parts, reverse=True)))
            self.assertEqual(bench.changes, len(parts) - 2)
            while bench.changes:
                bench.undo()
            self.assertEqual(bench.now, (30, 29))

    def test_an_exception_through_all_trials(self):
        for depth in range(1, 6):
            bench = Bench((3,))
            with self.assertRaises(Stop):
                self.deep(bench, depth)
            self.assertEqual((bench.now, bench.changes), ((3,), 0))

    def deep(self, bench, depth):
        with bench.trial():
            bench.put(depth)
            if depth == 1:
                raise Stop
            self.deep(bench, depth - 1)

    def test_tried(self):
        bench = Bench((2, 1))
        self.assertEqual(bench.tried(lambda held: (held is bench, held.put(3), held.now)), (True, None, (3, 2, 1)))
        self.assertEqual((bench.now, bench.changes), ((3, 2, 1), 1))
        self.assertIsNone(bench.tried(action=Bench.undo))
        self.assertEqual((bench.now, bench.changes), ((2, 1), 0))

        def failing(held):
            held.put(9)
            held.turn()
            held.tried(lambda inner: inner.put(8))
            held.take(100)
        self.fails(NoSuchPart, "given", 100, bench.tried, failing)
        self.assertEqual((bench.now, bench.changes), ((2, 1), 0))
        self.fails(NothingToUndo, None, None, bench.tried, Bench.undo)

    def test_drawn_trials(self):
        lots = random.Random(142)
        for _ in range(60):
            bench = Bench(random_row(lots, lots.randint(0, 12)))
            self.drawn(lots, bench, 0)

    def drawn(self, lots, bench, depth):
        """Deeds and trials, some of which end with an exception; then the bench is as it was."""
        before = (bench.now, bench.changes)
        stops = lots.random() < 0.4
        try:
            with bench.trial():
                for _ in range(lots.randint(0, 4)):
                    kind = lots.random()
                    if kind < 0.3 and depth < 4:
                        self.drawn(lots, bench, depth + 1)
                    elif kind < 0.5 and bench.changes:
                        bench.undo()
                    else:
                        bench.put(lots.randint(1, 5))
                after = (bench.now, bench.changes)
                if stops:
                    raise Stop
        except Stop:
            self.assertTrue(stops)
            after = before
        self.assertEqual((bench.now, bench.changes), after)


if __name__ == "__main__":
    unittest.main()
