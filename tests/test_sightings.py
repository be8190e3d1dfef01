import random
import unittest

from letparts.errors import InvalidBarred, InvalidLet, InvalidNumber, InvalidRow, NoFit, NotASighting, TooMany
from letparts.rules import Bans, Caps
from letparts.sightings import Sighting, can_be, least_bans, quarrel, sure
from letparts.tallies import Tally
from tests.helpers import ANY, NOT_INTEGERS, NOT_ROWS, OTHER_KINDS, Case, given, index, listed_rows, random_row

SMALL = [row for number in range(5) for row in listed_rows(number)]
NOT_SIGHTINGS = NOT_INTEGERS + (
    0, 1, -1, "-", ((), ()), (((2, 1),), ((3, 3),)), [(), ()], Caps((), (1,)), Bans(()), Tally((1,)), Sighting)
NOT_SEEN = NOT_ROWS + ((41,), (40, 1), (1,) * 41, (600,))


def stands(one, other):
    """Whether a row stands in another one, part by part."""
    left = list(other)
    for part in one:
        if part not in left:
            return False
        left.remove(part)
    return True


def closed_lots(rows):
    """All lots of these rows such that with each row all that stand in it are there, as tuples of truths."""
    below = [[at for at, one in enumerate(rows) if stands(one, row)] for row in rows]
    found = []
    for choice in range(1 << len(rows)):
        if all(choice >> at & 1 for top in range(len(rows)) if choice >> top & 1 for at in below[top]):
            found.append([bool(choice >> at & 1) for at in range(len(rows))])
    return found


LOTS = closed_lots(SMALL)


def random_sighting(lots, rows, most):
    """Any sighting of some of these rows."""
    return Sighting(tuple(lots.choice(rows) for _ in range(lots.randint(0, most))),
                    tuple(lots.choice(rows) for _ in range(lots.randint(0, most))))


class Sightings(Case):
    def test_objects(self):
        dim = Sighting(((2, 1), (), (2, 1)), ((3, 3, 1), (3, 3)))
        self.assertEqual((dim.let, dim.barred), (((2, 1), (), (2, 1)), ((3, 3, 1), (3, 3))))
        named = Sighting(barred=((2,),), let=())
        self.assertEqual((named.let, named.barred), ((), ((2,),)))
        full = Sighting(((40,),) * 12, ((1,) * 40,) * 12)
        self.assertEqual((full.let, full.barred), (((40,),) * 12, ((1,) * 40,) * 12))
        for each in (dim, named, full, Sighting((), ())):
            self.assertTrue(each)
            self.assertTrue(each == Sighting(each.let, each.barred))
            self.assertFalse(each != Sighting(each.let, each.barred))
        for other in (Sighting((), ((2, 1), (3, 3))), Sighting(((3, 3),), ((2, 1),)), Sighting(((2, 1),), ()),
                      Sighting(((2, 1),), ((3, 3), (3, 3))), (((2, 1),), ((3, 3),)), None, 1, ANY, Bans(((2, 1),)),
                      Sighting(((2, 1), (2, 1)), ((3, 3),)), Sighting(((2, 1),), ((3, 2),))):
            self.assertFalse(Sighting(((2, 1),), ((3, 3),)) == other)
            self.assertTrue(Sighting(((2, 1),), ((3, 3),)) != other)
        self.assertTrue(Sighting(((2,), (3,)), ()) != Sighting(((3,), (2,)), ()))

    def test_wrong_rows(self):
        kinds = [(value, None) for value in OTHER_KINDS] + [(3, None), ([(1,)], None)]
        kinds += [((value, 0), 0) for value in NOT_SEEN] + [(((), (2,), value, 0), 2) for value in NOT_SEEN]
        kinds += [((3, 2, 1), 0), (((2,),) * 13, 12), (((2,),) * 12 + (0, 0), 12), (((2,),) * 11 + (0, (2,)), 11)]
        kinds += [(((2, 1), [(2, 1)]), 1)]
        self.fails_in_order(Sighting, ("let", ((2, 1),), index(InvalidLet, *kinds)),
                            ("barred", ((3, 3),), index(InvalidBarred, *kinds)))

    def test_saw(self):
        dim = Sighting(((2, 1),), ((3, 3),))
        self.assertEqual(dim.saw((2,), True), Sighting(((2, 1), (2,)), ((3, 3),)))
        self.assertEqual(dim.saw((2,), False), Sighting(((2, 1),), ((3, 3), (2,))))
        self.assertEqual(dim.saw(is_let=False, row=()), Sighting(((2, 1),), ((3, 3), ())))
        self.assertEqual(dim.saw((2, 1), True).saw((40,), True), Sighting(((2, 1), (2, 1), (40,)), ((3, 3),)))
        self.assertEqual(dim, Sighting(((2, 1),), ((3, 3),)))
        for let in (True, False):
            full = Sighting((), ())
            for _ in range(12):
                full = full.saw((2,), let)
            self.assertEqual(full, Sighting(((2,),) * 12, ()) if let else Sighting((), ((2,),) * 12))
            self.fails(TooMany, "given", 13, full.saw, (2,), let)
            self.fails(TooMany, "given", 13, full.saw, is_let=let, row=())
            self.fails(TooMany, "given", 41, full.saw, (41,), let)
            self.fails(InvalidNumber, "given", 1, full.saw, (2,), 1)
            self.assertEqual(len((full.saw((2,), not let).barred if let else full.saw((2,), not let).let)), 1)
            for row, total in (((41,), 41), ((40, 1), 41), ((1,) * 41, 41), ((600,), 600)):
                self.fails(TooMany, "given", total, dim.saw, row, let)
                self.fails(TooMany, "given", total, dim.saw, row=row, is_let=let)
                self.fails(InvalidNumber, "given", None, dim.saw, row, None)
            self.assertEqual(dim.saw((20, 20), let).saw((20, 20), let), dim.saw((20, 20), let).saw((20, 20), let))

    def test_saw_wrong(self):
        dim = Sighting(((2, 1),), ((3, 3),))
        not_truths = tuple(value for value in NOT_INTEGERS if not isinstance(value, bool)) + (0, 1, -1, "True")
        self.fails_in_order(dim.saw, ("row", (2,), given(InvalidRow, NOT_ROWS)),
                            ("is_let", True, given(InvalidNumber, not_truths)))
        self.assertEqual(dim, Sighting(((2, 1),), ((3, 3),)))


class Hidden(Case):
    def check(self, sighting, lots):
        """What is told of a sighting of small rows, against all lots that fit."""
        let = [SMALL.index(row) for row in sighting.let]
        barred = [SMALL.index(row) for row in sighting.barred]
        fitting = [lot for lot in LOTS if all(lot[at] for at in let) and not any(lot[at] for at in barred)]
        self.same(fitting != [], can_be, sighting=sighting)
        found = quarrel(sighting)
        if fitting:
            self.assertIsNone(found)
            for at, row in enumerate(SMALL):
                seen = {lot[at] for lot in fitting}
                self.same("open" if len(seen) == 2 else "let" if True in seen else "barred", sure,
                          sighting=sighting, row=row)
            least = {row for row in sighting.barred
                     if not any(other != row and stands(other, row) for other in sighting.barred)}
            self.same(tuple(sorted(least)), least_bans, sighting=sighting)
            return
        low, high = found
        self.same(found, quarrel, sighting=sighting)
        self.assertEqual((low in sighting.barred, high in sighting.let, stands(low, high)), (True, True, True))
        self.fails(NoFit, None, None, least_bans, sighting)
        self.fails(NoFit, None, None, least_bans, sighting=sighting)
        self.fails(NoFit, None, None, sure, sighting, lots.choice(SMALL))
        self.fails(NoFit, None, None, sure, row=(600,), sighting=sighting)

    def test_against_all_lots(self):
        lots = random.Random(131)
        for most in (1, 2, 3, 4, 12):
            for _ in range(60):
                self.check(random_sighting(lots, SMALL, most), lots)
        for sighting in (Sighting((), ()), Sighting(((),), ()), Sighting((), ((),)), Sighting(((),), ((),)),
                         Sighting((), ((), (2, 1))), Sighting(((2, 1),), ((2, 1),)), Sighting(((1,),), ((),))):
            self.check(sighting, lots)

    def test_great_rows(self):
        lots = random.Random(132)
        for _ in range(60):
            rows = [random_row(lots, lots.randint(0, 40), (1, 2, 3, 5, 8)) for _ in range(9)]
            sighting = random_sighting(lots, rows, 12)
            fitting = not any(stands(low, high) for low in sighting.barred for high in sighting.let)
            self.assertIs(can_be(sighting), fitting)
            self.assertIs(quarrel(sighting) is None, fitting)
            if not fitting:
                continue
            bans = least_bans(sighting)
            self.assertEqual(list(bans), sorted(set(bans)))
            for row in rows + [random_row(lots, 600, (1, 2, 3)), (), (40,), (600,)]:
                kinds = [any(stands(row, seen) for seen in sighting.let), any(stands(ban, row) for ban in bans)]
                self.assertEqual(sure(sighting, row), ["open", "let", "barred"][kinds[0] + 2 * kinds[1]])
                self.assertIs(kinds[1], any(stands(seen, row) for seen in sighting.barred))

    def test_told_sightings(self):
        dim = Sighting(((2, 1),), ((3, 3), (3, 3, 1)))
        self.same(True, can_be, sighting=dim)
        self.same("barred", sure, sighting=dim, row=(3, 3, 2))
        self.same("let", sure, sighting=dim, row=(2,))
        self.same("let", sure, sighting=dim, row=())
        self.same("open", sure, sighting=dim, row=(5,))
        self.same("open", sure, sighting=dim, row=(600,))
        self.same("barred", sure, sighting=dim, row=(3,) * 200)
        self.same(((3, 3),), least_bans, sighting=dim)
        self.same(((2,), (2, 1)), quarrel, sighting=dim.saw((2,), False))
        self.same("open", sure, sighting=Sighting((), ()), row=())
        self.same("barred", sure, sighting=Sighting((), ((),)), row=(7,))
        self.same(((),), least_bans, sighting=Sighting((), ((2,), (), (2, 1))))
        self.same(((2, 2), (3, 1)), least_bans, sighting=Sighting((), ((3, 1), (2, 2), (3, 1), (3, 2, 1), (2, 2))))

    def test_twelve_rows(self):
        let = tuple((1,) * (40 - at) for at in range(12))
        barred = tuple((40 - at,) for at in range(12))
        full = Sighting(let, barred)
        self.same(True, can_be, sighting=full)
        self.same(tuple(sorted(barred)), least_bans, sighting=full)
        self.same("barred", sure, sighting=full, row=(100, 29))
        self.same("open", sure, sighting=full, row=(28,))
        self.same("open", sure, sighting=full, row=(1,) * 41)
        self.same(((29,), (29, 11)), quarrel, sighting=Sighting(let[:11] + ((29, 11),), barred))

    def test_wrong(self):
        dim = Sighting(((2, 1),), ((3, 3),))
        quarrels = Sighting(((2, 1),), ((2,),))
        for function in (can_be, quarrel, least_bans):
            self.fails_in_order(function, ("sighting", dim, given(NotASighting, NOT_SIGHTINGS)))
        for sighting in (dim, quarrels):
            self.fails_in_order(sure, ("sighting", sighting, given(NotASighting, NOT_SIGHTINGS)), (
                "row", (2,), given(InvalidRow, NOT_ROWS) if sighting == dim else []))
        for row in NOT_ROWS:
            self.fails(InvalidRow, "given", row, sure, quarrels, row)


if __name__ == "__main__":
    unittest.main()
