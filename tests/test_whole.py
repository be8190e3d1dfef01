"""What is promised over the whole program: each thing is told in several ways, and these meet."""

import random
import unittest

from letparts import errors
from letparts.alike import alike, first_unlike
from letparts.asking import all_rules, count_rules, next_counts
from letparts.benches import Bench
from letparts.boxes import apart_counts, box_counts, great_count, length_counts, square_counts
from letparts.checker import accepts
from letparts.certificates import certify_alike, certify_counts, certify_no_fit, certify_round
from letparts.console import Console
from letparts.counts import count, count_all, counts, divisor_sums, excesses, sieve
from letparts.desks import Desk, played
from letparts.exchange import exchanged, exchanges
from letparts.games import beside, best_moves, is_lost, rims, worth
from letparts.gaps import apart_rows, drawn_in, drawn_out
from letparts.heaps import comes_again, count_rounds, dealt, dealt_from, is_garden, round_of, rounds
from letparts.ladders import ladders, strike_ladders
from letparts.listed import count_up_to, let_rows, next_let, nth_let, place_let
from letparts.paying import balanced_rows, factors, from_factors, perfect_rows, ways_to_pay, ways_to_weigh
from letparts.ranks import by_crank, by_rank
from letparts.rods import both_cores, core, cores, count_both, count_cores, from_threads, strikes, threads
from letparts.rows import all_rows, from_text, as_text, hooks, nth_row, place_of, stands_in, turned
from letparts.rules import Bans, Caps, from_rule_text, lets
from letparts.sightings import Sighting, can_be, least_bans, sure
from letparts.signed import signed_counts
from letparts.splitting import fished, merged, split, unfished
from letparts.squares import bent, by_squares, count_own, own_rows, unbent
from letparts.tallies import Tally, caps_of, fits, some_rule
from letparts.turns import even_less_odd, fives, turned_over
from letparts.vectors import from_vector, vector
from letparts.walks import pairings, walk_length, walked, walked_back
from tests.helpers import random_bans, random_caps, random_row

UNLIKE = Caps((), (1,))
ODD = Caps((), (None, 0))
EVERY = Caps((), (None,))
NUMBERS = range(17)


def drawn_rules(seed, many):
    lots = random.Random(seed)
    return [UNLIKE, ODD, EVERY, Bans(()), Bans(((2, 1), (3,)))] + [
        make(lots, kind) for _ in range(many) for make, kind in ((random_caps, Caps), (random_bans, Bans))]


class Counts(unittest.TestCase):
    def test_what_is_let_is_so_often_let(self):
        for rule in drawn_rules(201, 15):
            found = counts(rule, 60)
            for number in NUMBERS:
                rows = let_rows(rule, number)
                self.assertEqual(rows, tuple(row for row in all_rows(number) if lets(rule, row)))
                self.assertEqual((count(rule, number), count_up_to(rule, number, 60)), (len(rows), found[number]))
                self.assertEqual(count_up_to(rule, number, number), len(rows))
                self.assertEqual([nth_let(rule, number, at) for at in range(len(rows))], list(rows))
                self.assertEqual([place_let(rule, row) for row in rows], list(range(len(rows))))
                self.assertEqual([next_let(rule, row) for row in rows], list(rows[1:]) + [None] * (rows != ()))
                self.assertEqual(signed_counts(rule, number)[number], sum((-1) ** len(row) for row in rows))
            self.assertEqual(certify_counts(rule, 60)[0][3], found[60])
            self.by_formula(rule, counts(rule, 400))

    def by_formula(self, rule, found):
        if isinstance(rule, Caps):
            slopes = divisor_sums(rule, 400)
            for number in (1, 2, 61, 400):
                self.assertEqual(number * found[number], sum(slopes[k - 1] * found[number - k] for k in range(1, number + 1)))
            return
        for number in (0, 61, 400):
            self.assertEqual(found[number], sum(times * count_all(number - total) for total, times in sieve(rule)
                                                if total <= number))

    def test_all_rows_in_every_way(self):
        for number in NUMBERS:
            many = len(all_rows(number))
            told = [count_all(number), sum(length_counts(number)), sum(square_counts(number)), sum(by_squares(number)),
                    sum(by_rank(number, 7)), sum(by_crank(number, 7)) , count(EVERY, number), count(Bans(()), number),
                    apart_counts(number, 0, 1)[number], place_of((number,) if number else ()) + 1]
            self.assertEqual(told, [many] * len(told))
            self.assertEqual([nth_row(number, at) for at in range(many)], list(all_rows(number)))
            self.assertEqual(sum(box_counts(4, 5)), 126)
        for number in (0, 1, 5, 10, 200):
            self.assertEqual(count_all(number) if number else 1, sum(
                (1 if k % 2 else -1) * count_all(number - five) for k, five in paired_fives(number)) if number else 1)
            self.assertEqual(even_less_odd(number), signed_counts(UNLIKE, number)[number])
            self.assertEqual((-1) ** number * count_own(number), signed_counts(EVERY, number)[number])
        self.assertEqual([great_count((1, 2, 3), n) for n in range(40)], list(counts(Caps((None,) * 3, (0,)), 39)))

    def test_rogers(self):
        for least, text in ((1, "|*00*0"), (2, "|0**00")):
            self.assertEqual(apart_counts(400, 2, least), counts(Caps.read(text), 400))
            for number in NUMBERS:
                rows = apart_rows(number, 2, least)
                self.assertEqual(len(rows), apart_counts(number, 2, least)[number])
                for row in rows:
                    self.assertEqual(drawn_out(*drawn_in(row, 2, least), 2, least), row)

    def test_rows_as_texts(self):
        for number in NUMBERS:
            for row in all_rows(number):
                self.assertEqual((from_text(as_text(row)), turned(turned(row))), (row, row))
        for rule in drawn_rules(202, 9):
            self.assertEqual(from_rule_text(str(rule)), rule)


def paired_fives(number):
    """The pairs of k and a fives' number up to a number, but 0."""
    return [((at + 1) // 2, five) for at, five in enumerate(fives(number)) if at]


class Alike(unittest.TestCase):
    def test_alike_exactly_if_equally_many(self):
        rules = drawn_rules(203, 9) + [Bans(((1, 1, 1), (3,))), Caps((2, None, 0), (None,))]
        pairs = 0
        for rule in rules:
            for other in rules:
                number = first_unlike(rule, other)
                self.assertIs(alike(rule, other), number is None)
                self.assertTrue(accepts(*certify_alike(rule, other)))
                pairs += number is None
                one, two = counts(rule, 400), counts(other, 400)
                self.assertEqual(next((n for n in range(401) if one[n] != two[n]), None), number)
                if isinstance(rule, Caps) and isinstance(other, Caps):
                    shares = list(zip(excesses(rule, 400), excesses(other, 400)))
                    self.assertEqual(next((n + 1 for n, (a, b) in enumerate(shares) if a != b), None), number)
        self.assertGreater(pairs, len(rules))


class Led(unittest.TestCase):
    def test_one_to_one_and_back(self):
        for number in NUMBERS:
            rows = let_rows(ODD, number)
            for there, back in (
                    (lambda row: exchanged(row, ODD, UNLIKE), lambda row: exchanged(row, UNLIKE, ODD)),
                    (fished, unfished), (lambda row: merged(row, 2), lambda row: split(row, 2))):
                led = [there(row) for row in rows]
                self.assertEqual(sorted(led), list(let_rows(UNLIKE, number)))
                self.assertEqual([back(row) for row in led], list(rows))
            self.assertEqual([exchanged(row, ODD, UNLIKE) for row in rows], [merged(row, 2) for row in rows])
            for row in rows:
                self.assertTrue(accepts(("exchanged", "|*0", "|1", row, merged(row, 2)), exchanges(row, ODD, UNLIKE)))
            own = own_rows(number)
            self.assertEqual(sorted(bent(unbent(row)) for row in own), list(own))
            self.assertEqual(len(own), count_own(number))
            self.assertEqual([row for row in own], [row for row in all_rows(number) if turned(row) == row])
            unlike = let_rows(UNLIKE, number)
            self.assertEqual(sorted(map(turned_over, unlike)), list(unlike))

    def test_walks(self):
        for texts in (("2+1 3", "1+1+1 3"), ("1 1+1", "1 2"), ("1+1 2+2", "2 4")):
            rule, other = map(Bans.read, texts)
            self.assertEqual(pairings(rule, other) != (), alike(rule, other))
            for pairing in pairings(rule, other):
                for number in range(11):
                    rows = let_rows(rule, number)
                    led = [walked(row, rule, other, pairing) for row in rows]
                    self.assertEqual(sorted(led), list(let_rows(other, number)))
                    self.assertEqual([walked_back(row, rule, other, pairing) for row in led], list(rows))
                    self.assertTrue(all(walk_length(row, rule, other, pairing) % 2 == 0 for row in rows))


class Rods(unittest.TestCase):
    def test_core_and_threads(self):
        lots = random.Random(204)
        rows = [row for number in range(10) for row in all_rows(number)] + [random_row(lots, 60) for _ in range(20)]
        for row in rows:
            for rods in (2, 3, 5, 9):
                left = core(row, rods)
                self.assertEqual(from_threads(rods, left, threads(row, rods)), row)
                self.assertEqual(from_vector(vector(left, rods)), left)
                weight = sum(map(sum, threads(row, rods)))
                self.assertEqual(sum(row), sum(left) + rods * weight)
                self.assertEqual(weight, len([hook for hook in hooks(row) if hook % rods == 0]))
                path = row
                for _ in range(weight):
                    path = lots.choice(strikes(path, rods))
                self.assertEqual((path, strikes(path, rods)), (left, ()))
                self.assertEqual(Console(row).say(f"core {rods}"), as_text(left))
        for rods in (2, 3, 5, 9):
            for number in NUMBERS:
                self.assertEqual(len(cores(number, rods)), count_cores(number, rods))
        self.assertEqual(len(both_cores(4, 5)), count_both(4, 5))
        every = EVERY
        for row in all_rows(8):
            self.assertEqual(ladders(every, row), strike_ladders_one(row))
            self.assertLessEqual(strike_ladders(row, 2), ladders(every, row))

    def test_rims_and_worths(self):
        for number in range(10):
            for row in all_rows(number):
                self.assertEqual(len(rims(row)), number)
                below = {worth(lower) for lower in rims(row)}
                self.assertNotIn(worth(row), below)
                self.assertEqual(len(below & set(range(worth(row)))), worth(row))
                self.assertEqual((is_lost(row), beside((row, row))), (best_moves(row) == (), 0))


def strike_ladders_one(row):
    """How many ladders a row has, by its hooks."""
    ways = 1
    for many, hook in enumerate(hooks(row), start=1):
        ways *= many
    for hook in hooks(row):
        ways //= hook
    return ways


class Heaps(unittest.TestCase):
    def test_rows_that_come_again(self):
        for number in NUMBERS:
            rows = all_rows(number)
            again = {row for lot in rounds(number) for row in lot}
            self.assertEqual(again, {row for row in rows if comes_again(row)})
            self.assertEqual(len(rounds(number)), count_rounds(number))
            before = [one for row in rows for one in dealt_from(row)]
            self.assertEqual(sorted(before), list(rows))
            for row in rows:
                self.assertIn(round_of(row), rounds(number))
                self.assertIn(row, dealt_from(dealt(row)))
                self.assertIs(is_garden(row), dealt_from(row) == ())
                found = certify_round(row)
                self.assertIs(found is not None, row in again)
                if found:
                    self.assertEqual(tuple(sorted(found[1])), round_of(row))


class Paying(unittest.TestCase):
    def test_in_one_way(self):
        for number in NUMBERS:
            perfect = [row for row in all_rows(number) if set(ways_to_pay(row)) == {1}]
            self.assertEqual(list(perfect_rows(number)), perfect)
            self.assertEqual([from_factors(factors(row)) for row in perfect], perfect)
            self.assertEqual(list(balanced_rows(number)), [row for row in all_rows(number) if set(ways_to_weigh(row)) == {1}])
            for row in perfect:
                for paid in range(number + 1):
                    ways = [one for one in all_rows(paid) if stands_in(one, row)]
                    self.assertEqual(len(ways), ways_to_pay(row)[paid])


class Hidden(unittest.TestCase):
    def test_sure_for_all_that_fit(self):
        lots = random.Random(205)
        for _ in range(30):
            hidden = random_caps(lots, Caps)
            tally = Tally(counts(hidden, lots.randint(1, 11))[1:])
            length = len(tally.counts)
            self.assertTrue(fits(tally, hidden) and fits(tally, some_rule(tally)))
            self.assertIsNone(certify_no_fit(tally))
            self.assertIn(count(hidden, length + 1), next_counts(tally))
            if count_rules(tally) > 200:
                continue
            rules = all_rules(tally)
            self.assertEqual(len(rules), count_rules(tally))
            for size in range(1, length + 1):
                self.assertEqual(set(caps_of(tally, size)), {rule.cap(size) for rule in rules})
            for many in next_counts(tally):
                self.assertIsNotNone(some_rule(Tally(tally.counts + (many,))))

    def test_sightings_of_rules(self):
        lots = random.Random(206)
        rows = [row for number in range(8) for row in all_rows(number)]
        for rule in drawn_rules(207, 15):
            seen = Sighting((), ())
            for row in lots.sample(rows, 11):
                seen = seen.saw(row, lets(rule, row))
            self.assertTrue(can_be(seen))
            for row in rows:
                told = sure(seen, row)
                self.assertIn(told, ("open", "let" if lets(rule, row) else "barred"))
                if all(sum(ban) for ban in least_bans(seen)) and len(least_bans(seen)) <= 6:
                    self.assertIs(told == "barred", not lets(Bans(least_bans(seen)), row))


class Live(unittest.TestCase):
    def test_what_deeds_have_led_to(self):
        console = Console((7, 5, 3, 1))
        bench = Bench((7, 5, 3, 1))
        for command, deed in (("fish", bench.fish), ("turn over", bench.turn_over), ("deal", bench.deal),
                              ("turn", bench.turn)):
            console.say(command)
            deed()
            self.assertEqual((console.say("row"), console.bench.changes), (as_text(bench.now), bench.changes))
        desk = Desk()
        for rule, name in zip(drawn_rules(208, 9), "abcdefghijklmnopqrstuvwxyz"):
            desk.put(name, rule)
            for number in (0, 7, 60):
                desk.promise((name, ("counts", number, count(rule, number))))
            desk.promise((name, ("like", str(rule))))
            desk.promise(("within", name, name))
        again = played(desk.log)
        self.assertEqual((again.log, again.names, again.promises), (desk.log, desk.names, desk.promises))
        for name in desk.names:
            self.assertEqual(again.named(name), desk.named(name))


class Errors(unittest.TestCase):
    def test_bases_of_errors(self):
        bases = (errors.WrongValue, errors.WrongName, errors.NotPossible)
        for name in dir(errors):
            kind = getattr(errors, name)
            if isinstance(kind, type) and kind not in bases:
                self.assertEqual(len([base for base in bases if issubclass(kind, base)]), 1, name)


if __name__ == "__main__":
    unittest.main()
