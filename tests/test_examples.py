"""The examples of the interface, with just these results."""

import unittest

# Each name that an example binds stays bound for the ones behind it, in later sections too.
EXAMPLES = (
    ("rows", '''
>>> from letparts.rows import all_rows, as_text, feet, from_feet, from_text, hooks, join, nth_row, place_of, square, stands_in, together, turned
>>> [as_text((4, 4, 1)), from_text("-"), turned((4, 4, 1)), square((4, 4, 1)), feet((4, 4, 1)), from_feet((3, 2), (2, 0)), hooks((2, 1))]
['4+4+1', (), (3, 2, 2, 2), 2, ((3, 2), (2, 0)), (4, 4, 1), (3, 1, 1)]
>>> [stands_in((2, 1), (4, 2, 1)), together((4, 1), (2, 1)), join(((2, 2), (2, 1))), all_rows(4), nth_row(9, 17), place_of((4, 4, 1))]
[True, (4, 2, 1, 1), (2, 2, 1), ((1, 1, 1, 1), (2, 1, 1), (2, 2), (3, 1), (4,)), (4, 4, 1), 17]
>>> turned((1, 2))
raises InvalidRow(given=(1, 2))
'''),
    ("rules", '''
>>> from letparts.rules import Bans, Caps, both, from_rule_text, is_within, lets, not_within, standing
>>> unlike = Caps((), (1,))
>>> odd = Caps((), (None, 0))
>>> few = Bans(((2, 1), (3,)))
>>> [str(unlike), str(odd), str(few), Caps.read("11|1") == unlike, Caps((1, 1), (1, 1)).shortest().head, odd.cap(7), lets(odd, (5, 1, 1)), lets(few, (2, 2))]
['|1', '|*0', '2+1 3', True, (), None, True, True]
>>> [standing(unlike, (4, 4, 1, 1)), standing(few, (3, 2, 1)), is_within(unlike, odd), str(both(unlike, odd)), Bans(((2, 1), (2, 2, 1))).lean().bans, from_rule_text("none").bans]
[((1, 1), (4, 4)), ((2, 1), (3,)), False, '|10', ((2, 1),), ()]
>>> Bans(((3,), (2, 1)))
raises InvalidBans(index=1)
'''),
    ("counts", '''
>>> from letparts.counts import ban_sums, count, count_all, counts, divisor_sums, excesses, sieve
>>> [count(unlike, 9), count(odd, 9), count_all(9), counts(few, 6), sieve(few), ban_sums(unlike, 6), excesses(unlike, 6), divisor_sums(odd, 6)]
[8, 8, 30, (1, 1, 2, 1, 3, 3, 6), ((0, 1), (3, -2), (6, 1)), (0, 1, 0, 1, 0, 1), (1, 0, 1, 0, 1, 0), (1, 1, 4, 1, 6, 4)]
'''),
    ("listed", '''
>>> from letparts.listed import count_up_to, let_rows, next_let, nth_let, place_let
>>> [let_rows(unlike, 6), count_up_to(few, 6, 2), nth_let(odd, 9, 3), place_let(odd, (3, 3, 1, 1, 1)), next_let(few, (4, 1, 1))]
[((3, 2, 1), (4, 2), (5, 1), (6,)), 2, (3, 3, 3), 2, (4, 2)]
'''),
    ("signed", '''
>>> from letparts.signed import signed_count, signed_counts
>>> [signed_counts(Caps.read("|*"), 6), signed_count(unlike, 7), signed_counts(few, 4)]
[(1, -1, 0, -1, 1, -1, 1), 1, (1, -1, 0, -1, 1)]
'''),
    ("boxes", '''
>>> from letparts.boxes import apart_counts, box_counts, great_count, length_counts, square_counts
>>> [box_counts(2, 3), length_counts(5), square_counts(5), apart_counts(9, 2, 1), counts(Caps.read("|*00*0"), 9)]
[(1, 1, 2, 2, 2, 1, 1), (0, 1, 2, 2, 1, 1), (0, 5, 2), (1, 1, 1, 1, 2, 2, 3, 3, 4, 5), (1, 1, 1, 1, 2, 2, 3, 3, 4, 5)]
>>> [great_count((1, 5, 10), 100), great_count((2, 3), 10 ** 30)]
[121, 166666666666666666666666666667]
'''),
    ("alike", '''
>>> from letparts.alike import alike, first_unlike, matched
>>> second = Bans(((1, 1, 1), (3,)))
>>> [alike(unlike, odd), first_unlike(unlike, Caps((), (2,))), alike(few, second), alike(few, unlike), first_unlike(few, unlike), matched(unlike, odd, 8)]
[True, 2, True, False, 2, ((1, 2), (2, 4), (3, 6), (4, 8))]
'''),
    ("exchange", '''
>>> from letparts.exchange import exchanged, exchanges
>>> [exchanged((6, 4, 1), unlike, odd), exchanges((6, 4, 1), unlike, odd), exchanged((3, 3, 1, 1, 1, 1, 1), odd, unlike)]
[(3, 3, 1, 1, 1, 1, 1), (4, 2, 2, 6), (6, 4, 1)]
>>> exchanged((6, 6), unlike, odd)
raises NotLet(given=(6, 6))
'''),
    ("walks", '''
>>> from letparts.walks import is_even, pairings, walk_length, walked, walked_back
>>> [pairings(few, second), walked((1, 1, 1, 1, 1, 1), few, second, (0, 1)), walk_length((1, 1, 1, 1, 1, 1), few, second, (0, 1)), walk_length((1, 1, 1, 1, 1, 1), few, second, (1, 0)), walked_back((2, 2, 1, 1), few, second, (0, 1)), is_even(few, few, (1, 0))]
[((0, 1), (1, 0)), (2, 2, 1, 1), 4, 12, (1, 1, 1, 1, 1, 1), True]
'''),
    ("turns", '''
>>> from letparts.turns import even_less_odd, fives, stays, turned_over
>>> [turned_over((5, 4, 2)), turned_over((6, 5)), stays((2,)), fives(12), even_less_odd(7), even_less_odd(8)]
[(6, 5), (5, 4, 2), True, (0, 1, 2, 5, 7, 12), 1, 0]
'''),
    ("splitting", '''
>>> from letparts.splitting import fished, merged, runs, split, unfished
>>> [fished((5, 3, 3, 1)), unfished((6, 4, 2)), runs((7, 6, 3, 1)), split((6, 4, 1), 2), merged((3, 3, 1, 1, 1, 1, 1), 2), split((9, 6), 3)]
[(6, 4, 2), (5, 3, 3, 1), ((7, 6), (3,), (1,)), (3, 3, 1, 1, 1, 1, 1), (6, 4, 1), (2, 2, 2, 1, 1, 1, 1, 1, 1, 1, 1, 1)]
'''),
    ("squares", '''
>>> from letparts.squares import bent, by_squares, count_own, is_own, own_rows, squares, unbent
>>> [squares((4, 4, 1)), by_squares(4), bent((5, 3)), unbent((3, 3, 2)), is_own((3, 3, 2)), own_rows(8), count_own(30)]
[(2, 1), (0, 2, 1, 1, 1), (3, 3, 2), (5, 3), True, ((3, 3, 2), (4, 2, 1, 1)), 18]
'''),
    ("gaps", '''
>>> from letparts.gaps import apart_rows, drawn_in, drawn_out, from_gaps, gaps, is_apart
>>> [gaps((4, 4, 1)), from_gaps((0, 3, 1)), is_apart((6, 3, 1), 2, 1), apart_rows(9, 2, 2), drawn_in((6, 3, 1), 2, 1), drawn_out(3, (1,), 2, 1)]
[(0, 3, 1), (4, 4, 1), True, ((6, 3), (7, 2), (9,)), (3, (1,)), (6, 3, 1)]
'''),
    ("rods", '''
>>> from letparts.rods import beads, both_cores, core, cores, count_both, count_cores, from_threads, is_core, strikes, threads
>>> [beads((4, 4, 1), 3), threads((4, 4, 1), 3), core((4, 4, 1), 3), strikes((4, 4, 1), 3), from_threads(3, (3, 1), ((), (1,), ())), is_core((3, 1), 3)]
[((2,), (0,), (1,)), ((2,), (), (1,)), (), ((3, 2, 1), (4, 1, 1)), (3, 1, 1, 1, 1), True]
>>> [cores(4, 3), count_cores(5, 3), both_cores(3, 4), count_both(8, 9)]
[((2, 1, 1), (3, 1)), 1, ((), (1,), (1, 1), (2,), (3, 1, 1)), 1430]
'''),
    ("vectors", '''
>>> from letparts.vectors import from_vector, raises, rod_sign, vector
>>> [vector((3, 1), 3), from_vector((0, 1, -1)), raises((2,), 2), rod_sign((4, 4, 1), 3), rod_sign((1, 1), 2)]
[(0, -1, 1), (2,), ((2, 1, 1), (2, 2), (4,)), 1, -1]
'''),
    ("ladders", '''
>>> from letparts.ladders import ladders, steps_down, steps_up, strike_ladders
>>> every = Caps.read("|*")
>>> [ladders(every, (3, 2)), ladders(unlike, (4, 2, 1)), steps_up(unlike, (3, 1)), steps_down(every, (4, 4, 1)), strike_ladders((4, 4, 1), 3)]
[5, 7, ((3, 2), (4, 1)), ((4, 3, 1), (4, 4)), 3]
'''),
    ("games", '''
>>> from letparts.games import beside, best_moves, is_lost, rims, winning, worth
>>> [rims((2, 1)), worth((4, 4, 1)), is_lost((4, 4)), best_moves((4, 4, 1)), beside(((3,), (1, 1, 1))), winning(((2,), (1,)))]
[((), (1, 1), (2,)), 5, True, ((3, 2, 1), (4, 3, 1), (4, 4)), 0, ((0, (1,)),)]
'''),
    ("ranks", '''
>>> from letparts.ranks import by_crank, by_rank, crank, rank
>>> [rank((4, 4, 1)), crank((4, 4, 1)), crank((1, 1)), by_rank(9, 5), by_crank(6, 11)]
[1, 1, -2, (6, 6, 6, 6, 6), (1, 1, 1, 1, 1, 1, 1, 1, 1, 1, 1)]
'''),
    ("heaps", '''
>>> from letparts.heaps import comes_again, count_rounds, dealt, dealt_from, deals, is_garden, round_of, rounds
>>> [dealt((4, 4, 1)), dealt_from((3, 3, 3)), is_garden((2, 2, 2, 2)), comes_again((3, 2, 1)), deals((4,)), round_of((4,)), count_rounds(8), rounds(4)]
[(3, 3, 3), ((4, 4, 1),), True, True, 1, ((2, 1, 1), (2, 2), (3, 1)), 2, (((2, 1, 1), (2, 2), (3, 1)),)]
'''),
    ("paying", '''
>>> from letparts.paying import balanced_rows, count_complete, factors, fewest_parts, fewest_weights, from_factors, is_balanced, is_complete, is_perfect, is_set, perfect_rows, ways_to_pay, ways_to_weigh, weights_factors
>>> [ways_to_pay((2, 1, 1)), is_complete((4, 1, 1)), perfect_rows(5), factors((2, 2, 1)), from_factors((3, 2)), fewest_parts(9), count_complete(5), is_perfect((2, 1, 1))]
[(1, 1, 2, 1, 1), False, ((1, 1, 1, 1, 1), (2, 2, 1), (3, 1, 1)), (2, 3), (3, 1, 1), 4, 4, False]
>>> [ways_to_weigh((3, 1)), is_set((4, 1)), is_balanced((3, 1)), balanced_rows(4), weights_factors((3, 1)), fewest_weights(40)]
[(1, 1, 1, 1, 1), False, True, ((1, 1, 1, 1), (3, 1)), (3, 3), 4]
'''),
    ("tallies", '''
>>> from letparts.tallies import Tally, caps_of, fits, some_rule, told_excesses
>>> seen = Tally((1, 1, 2, 2))
>>> [told_excesses(seen), fits(seen, unlike), fits(seen, odd), caps_of(seen, 1), caps_of(seen, 2), fits(seen, some_rule(seen)), some_rule(Tally((2,)))]
[(1, 0, 1, 0), True, True, (1, 3, None), (0, 1, None), True, None]
'''),
    ("asking", '''
>>> from letparts.asking import all_rules, count_rules, next_counts
>>> [next_counts(seen), count_rules(seen), [str(rule) for rule in all_rules(Tally((1, 1, 2)))], next_counts(Tally((0, 0)))]
[(1, 2, 3), 4, ['*0*|*', '1**|*'], (0, 1)]
'''),
    ("sightings", '''
>>> from letparts.sightings import Sighting, can_be, least_bans, quarrel, sure
>>> dim = Sighting(((2, 1),), ((3, 3), (3, 3, 1)))
>>> [can_be(dim), sure(dim, (3, 3, 2)), sure(dim, (2,)), sure(dim, (5,)), least_bans(dim), quarrel(dim.saw((2,), False))]
[True, 'barred', 'let', 'open', ((3, 3),), ((2,), (2, 1))]
'''),
    ("benches", '''
>>> from letparts.benches import Bench
>>> bench = Bench((4, 4, 1))
>>> bench.deal()
>>> bench.strike((3, 2, 1), 3)
>>> bench.put(5)
>>> [bench.now, bench.changes, bench.undo(), bench.now, bench.undo(), bench.now]
[(5, 3, 2, 1), 3, None, (3, 2, 1), None, (3, 3, 3)]
'''),
    ("desks", '''
>>> from letparts.desks import Desk, played
>>> desk = Desk()
>>> desk.put("yard", unlike)
>>> desk.put("hall", odd)
>>> desk.promise(("alike", "yard", "hall"))
>>> desk.promise(("yard", ("counts", 9, 8)))
>>> [desk.names, desk.changes, desk.log[0], played(desk.log).promises]
[('hall', 'yard'), 4, ('put', 'yard', '|1'), (('alike', 'yard', 'hall'), ('yard', ('counts', 9, 8)))]
>>> desk.put("hall", few)
raises Broken(index=0)
'''),
    ("certificates", '''
>>> from letparts.certificates import certify_alike, certify_counts, certify_exchange, certify_lets, certify_no_fit, certify_perfect, certify_round, certify_within
>>> from letparts.checker import accepts
>>> [certify_alike(unlike, odd), certify_alike(few, unlike), certify_counts(unlike, 4), certify_lets(few, (2, 2)), certify_perfect((2, 2, 1)), certify_round((3, 2, 1)), certify_no_fit(Tally((2,)))]
[(('alike', '|1', '|*0'), ()), (('unlike', '2+1 3', '|1'), 2), (('counts', '|1', 4, 2), (1, 1, 1, 2, 2)), (('lets', '2+1 3', (2, 2)), ()), (('perfect', (2, 2, 1)), (2, 3)), (('round', (3, 2, 1)), ((3, 2, 1),)), (('no fit', (2,)), (1,))]
>>> [accepts(("bars", "|1", (4, 4, 1)), (4, 4)), accepts(("exchanged", "|1", "|*0", (6, 4, 1), (3, 3, 1, 1, 1, 1, 1)), (6, 4, 2, 2)), accepts(("core", (4, 4, 1), 3, ()), ((4, 1, 1), (1, 1, 1), ())), accepts(("not perfect", (2, 1, 1)), 2), accepts(("round", (4,)), ())]
[True, True, True, True, False]
'''),
    ("console", '''
>>> from letparts.console import Console
>>> console = Console((4, 4, 1))
>>> [console.say("core 3"), console.say("threads 3"), console.say("place"), console.say("let |1"), console.say("deal"), console.say("row"), console.say("from"), console.say("undo"), console.say("hooks"), console.say("again")]
['-', '2 - 1', '17', 'no', 'ok', '3+3+3', '4+4+1', 'ok', '6 5 4 3 3 2 2 1 1', 'no']
>>> console.say("take 9")
raises NoSuchPart(given=9)
'''),
)


def shown(error):
    """An error as the interface writes it."""
    told = ", ".join(f"{name}={value!r}" for name, value in vars(error).items())
    return f"raises {type(error).__name__}({told})"


def said(source, names):
    """What Python says to a line; None if it says nothing."""
    try:
        code = compile(source, "example", "eval")
    except SyntaxError:
        exec(source, names)
        return None
    try:
        value = eval(code, names)
    except (ValueError, LookupError, ArithmeticError) as error:
        return shown(error)
    return None if value is None else repr(value)


class Examples(unittest.TestCase):
    def test_all(self):
        names = {}
        for section, text in EXAMPLES:
            lines = text.strip("\n").split("\n")
            for at, line in enumerate(lines):
                if line.startswith(">>> "):
                    behind = lines[at + 1] if at + 1 < len(lines) else ">>> "
                    expected = None if behind.startswith(">>> ") else behind
                    with self.subTest(section=section, line=line):
                        self.assertEqual(said(line[4:], names), expected)


if __name__ == "__main__":
    unittest.main()
