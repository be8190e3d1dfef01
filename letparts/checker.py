"""The checker: which papers show that which claims are true."""

from letparts.alike import alike, first_unlike, matched
from letparts.asking import next_counts
from letparts.checks import is_from_to, is_integer, is_row
from letparts.counts import count, count_all, counts
from letparts.errors import InvalidCounts
from letparts.games import is_lost, worth
from letparts.giving import sizes_of
from letparts.heaps import dealt, is_garden
from letparts.ladders import ladders, steps_down
from letparts.limits import MOST_COUNTS, MOST_LED, MOST_LISTED, MOST_RODS
from letparts.listed import place_let
from letparts.parts import places_of, row_of_times, times_of
from letparts.paying import factors, is_balanced, is_perfect, ways_to_pay, weights_factors
from letparts.rods import is_core, strikes
from letparts.rules import Caps, caps_of_text, is_within, lets, rule_of_text, standing
from letparts.splitting import fished
from letparts.tallies import Tally, asked_by, fits, some_rule
from letparts.vectors import vector


def _is_same(value, expected):
    """Whether any value is just the expected one, of integers, tuples of these and so on; True and 1 are not."""
    if isinstance(expected, tuple):
        if not isinstance(value, tuple) or len(value) != len(expected):
            return False
        return all([_is_same(one, other) for one, other in zip(value, expected)])
    return is_integer(value) and value == expected


def _shows_lets(paper, rule, row):
    return _is_same(paper, ()) and lets(rule, row)


def _shows_bars(paper, rule, row):
    return is_row(paper) and paper in standing(rule, row)


def _shows_counts(paper, rule, number, many):
    told = counts(rule, number)
    shown = told if isinstance(rule, Caps) else tuple([count_all(n) for n in range(number + 1)])
    return told[number] == many and _is_same(paper, shown)


def _shows_alike(paper, rule, other):
    return _is_same(paper, ()) and alike(rule, other)


def _shows_unlike(paper, rule, other):
    number = first_unlike(rule, other)
    return number is not None and _is_same(paper, number)


def _shows_within(paper, rule, other):
    return _is_same(paper, ()) and is_within(rule, other)


def _shows_not_within(paper, rule, other):
    return is_row(paper) and lets(rule, paper) and not lets(other, paper)


def _exchanged_once(row, rule, other, partners, size):
    """The row with a ban of the second rule taken out and the matched one put in; None if it does not stand there."""
    times = times_of(row)
    # What has no partner has a greater sum than the row, or no ban.
    if not is_integer(size) or size not in partners or times.get(size, 0) <= other.cap(size):
        return None
    partner = partners[size]
    times[size] -= other.cap(size) + 1
    times[partner] = times.get(partner, 0) + rule.cap(partner) + 1
    return row_of_times(times)


def _shows_exchanged(paper, rule, other, row, end):
    if sum(row) > MOST_LED or not lets(rule, row) or not alike(rule, other) or not isinstance(paper, tuple):
        return False
    partners = {other_size: size for size, other_size in matched(rule, other, sum(row))}
    for size in paper:
        row = _exchanged_once(row, rule, other, partners, size)
        if row is None:
            return False
    return row == end and lets(other, end)


def _shows_core(paper, row, rods, end):
    if not isinstance(paper, tuple):
        return False
    for lower in paper:
        if not is_row(lower) or lower not in strikes(row, rods):
            return False
        row = lower
    return row == end and is_core(end, rods)


def _shows_garden(paper, row):
    return _is_same(paper, ()) and is_garden(row)


def _shows_dealt(paper, row, end):
    return _is_same(paper, ()) and dealt(row) == end


def _shows_round(paper, row):
    if not isinstance(paper, tuple):
        return False
    at = row
    for step in paper[:-1]:
        at = dealt(at)
        if at == row or not _is_same(step, at):
            return False
    return dealt(at) == row and _is_same(paper[-1:], (row,))


def _shows_worth(paper, row, many):
    return _is_same(paper, ()) and worth(row) == many


def _shows_lost(paper, row):
    return _is_same(paper, ()) and is_lost(row)


def _is_rim(row, lower):
    """Whether a rim can be taken of a row so that the lower one is left: just one bead goes down."""
    many = max(len(row), len(lower))
    return len(set(places_of(row, many)) - set(places_of(lower, many))) == 1 and sum(lower) < sum(row)


def _shows_won(paper, row):
    return is_row(paper) and is_lost(paper) and _is_rim(row, paper)


def _shows_fished(paper, row, end):
    return _is_same(paper, ()) and all([part % 2 == 1 for part in row]) and fished(row) == end


def _shows_vector(paper, row, told):
    rods = len(told)
    return _is_same(paper, ()) and is_core(row, rods) and _is_same(told, vector(row, rods))


def _shows_place(paper, rule, row, many):
    if sum(row) > MOST_LED or not lets(rule, row):
        return False
    return _is_same(paper, ()) and place_let(rule, row) == many


def _shows_ladders(paper, rule, row, many):
    if sum(row) > MOST_LISTED or not lets(rule, row) or ladders(rule, row) != many:
        return False
    return _is_same(paper, tuple([(step, ladders(rule, step)) for step in steps_down(rule, row)]))


def _shows_next(paper, tally, many):
    rule = caps_of_text(paper)
    return rule is not None and fits(tally, rule) and count(rule, len(tally.counts) + 1) == many


def _shows_not_next(paper, tally, many):
    return _is_same(paper, ()) and some_rule(tally) is not None and many not in next_counts(tally)


def _shows_perfect(paper, row):
    return is_perfect(row) and _is_same(paper, factors(row))


def _shows_not_perfect(paper, row):
    return sum(row) <= MOST_LED and is_from_to(paper, 0, sum(row)) and ways_to_pay(row)[paper] != 1


def _shows_balanced(paper, row):
    return is_balanced(row) and _is_same(paper, weights_factors(row))


def _shows_fits(paper, tally, rule):
    return _is_same(paper, ()) and fits(tally, rule)


def _are_numbers(value, most):
    """Whether a value is an ascending tuple of numbers from 1 to a greatest one."""
    if not isinstance(value, tuple) or not all([is_from_to(number, 1, most) for number in value]):
        return False
    return all([value[at] < value[at + 1] for at in range(len(value) - 1)])


def _shows_no_fit(paper, tally):
    asked = asked_by(tally)
    if not _are_numbers(paper, len(asked)):
        return False
    if len(paper) == 1 and asked[paper[0] - 1] < 0:
        return True
    many = sum([max(0, asked[number - 1]) for number in paper])
    return many > len(set([size for number in paper for size in sizes_of(number)]))


_KINDS = {
    "lets": ("rule", "row"), "bars": ("rule", "row"), "counts": ("rule", "number", "many"),
    "alike": ("rule", "rule"), "unlike": ("rule", "rule"), "within": ("rule", "rule"), "not within": ("rule", "rule"),
    "exchanged": ("caps", "caps", "row", "row"), "core": ("row", "rods", "row"),
    "garden": ("row",), "dealt": ("row", "row"), "round": ("row",),
    "worth": ("row", "many"), "lost": ("row",), "won": ("row",),
    "fished": ("row", "row"), "vector": ("row", "vector"),
    "place": ("rule", "row", "many"), "ladders": ("rule", "row", "many"),
    "next": ("short tally", "many"), "not next": ("short tally", "many"),
    "perfect": ("row",), "not perfect": ("row",), "balanced": ("row",),
    "fits": ("tally", "caps"), "no fit": ("tally",)}

_CHECKS = {
    "lets": _shows_lets, "bars": _shows_bars, "counts": _shows_counts,
    "alike": _shows_alike, "unlike": _shows_unlike, "within": _shows_within, "not within": _shows_not_within,
    "exchanged": _shows_exchanged, "core": _shows_core,
    "garden": _shows_garden, "dealt": _shows_dealt, "round": _shows_round,
    "worth": _shows_worth, "lost": _shows_lost, "won": _shows_won,
    "fished": _shows_fished, "vector": _shows_vector,
    "place": _shows_place, "ladders": _shows_ladders,
    "next": _shows_next, "not next": _shows_not_next,
    "perfect": _shows_perfect, "not perfect": _shows_not_perfect, "balanced": _shows_balanced,
    "fits": _shows_fits, "no fit": _shows_no_fit}


def _tally_of(value, most):
    """The tally of these counts; None if there are more, or if it is no tally of counts."""
    if not isinstance(value, tuple) or len(value) > most:
        return None
    try:
        return Tally(value)
    except InvalidCounts:
        return None


def _is_of_kind(kind, told):
    """Whether what a claim tells is of a kind that is checked as it is."""
    match kind:
        case "row":
            return is_row(told)
        case "number":
            return is_from_to(told, 0, MOST_LED)
        case "rods":
            return is_from_to(told, 2, MOST_RODS)
        case "vector":
            return isinstance(told, tuple) and 2 <= len(told) <= MOST_RODS
        case _:
            return is_integer(told) and told >= 0


def _read(kind, told):
    """What a claim tells, rules and tallies made of it; None if it is not of its kind."""
    match kind:
        case "rule":
            return rule_of_text(told)
        case "caps":
            return caps_of_text(told)
        case "tally":
            return _tally_of(told, MOST_COUNTS)
        case "short tally":
            return _tally_of(told, MOST_COUNTS - 1)
        case _:
            return told if _is_of_kind(kind, told) else None


def accepts(claim, paper):
    """Whether a value is a claim for the checker, and another one a paper that shows it."""
    if not isinstance(claim, tuple) or not claim or not isinstance(claim[0], str):
        return False
    kinds = _KINDS.get(claim[0])
    if kinds is None or len(claim) != len(kinds) + 1:
        return False
    told = [_read(kind, value) for kind, value in zip(kinds, claim[1:])]
    if any([value is None for value in told]):
        return False
    check = _CHECKS[claim[0]]
    return check(paper, *told)
