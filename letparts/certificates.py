"""Certificates: claims with papers that the checker accepts."""

from letparts.alike import first_unlike
from letparts.asking import next_counts
from letparts.checks import is_integer, need_number, need_sum
from letparts.counts import count_all, counts
from letparts.errors import InvalidNumber, NotLet
from letparts.exchange import exchanged, exchanges
from letparts.games import best_moves, worth
from letparts.giving import given_or_crowd
from letparts.heaps import comes_again, dealt, is_garden
from letparts.ladders import ladders, steps_down
from letparts.limits import MOST_LED
from letparts.listed import place_let
from letparts.paying import factors, is_balanced, is_perfect, ways_to_pay, weights_factors
from letparts.rods import strikes
from letparts.rules import Caps, lets, need_rule, not_within, standing
from letparts.splitting import fished
from letparts.tallies import Tally, asked_by, fits, need_tally, some_rule
from letparts.vectors import vector


def certify_lets(rule, row):
    """That a rule lets a row, or that it does not."""
    bans = standing(rule, row)
    if bans:
        return ("bars", str(rule), row), bans[0]
    return ("lets", str(rule), row), ()


def certify_counts(rule, number):
    """How many rows of a number a rule lets."""
    need_rule(rule)
    need_number(number, MOST_LED)
    told = counts(rule, number)
    paper = told if isinstance(rule, Caps) else tuple([count_all(n) for n in range(number + 1)])
    return ("counts", str(rule), number, told[number]), paper


def certify_alike(rule, other):
    """That two rules are alike, or that they are not."""
    number = first_unlike(rule, other)
    if number is None:
        return ("alike", str(rule), str(other)), ()
    return ("unlike", str(rule), str(other)), number


def certify_within(rule, other):
    """That a rule is within another one, or that it is not."""
    row = not_within(rule, other)
    if row is None:
        return ("within", str(rule), str(other)), ()
    return ("not within", str(rule), str(other)), row


def certify_exchange(row, rule, other):
    """For which row a row is exchanged."""
    end = exchanged(row, rule, other)
    return ("exchanged", str(rule), str(other), row, end), exchanges(row, rule, other)


def certify_core(row, rods):
    """What the core of a row is."""
    path = []
    end = row
    reached = strikes(row, rods)
    while reached:
        end = reached[0]
        path.append(end)
        reached = strikes(end, rods)
    return ("core", row, rods, end), tuple(path)


def certify_dealt(row):
    """To which row a row is dealt."""
    return ("dealt", row, dealt(row)), ()


def certify_garden(row):
    """That no row is dealt to a row; None if some row is."""
    return (("garden", row), ()) if is_garden(row) else None


def certify_round(row):
    """That a row comes again; None if it does not."""
    if not comes_again(row):
        return None
    path = [dealt(row)]
    while path[-1] != row:
        path.append(dealt(path[-1]))
    return ("round", row), tuple(path)


def certify_perfect(row):
    """That a row is perfect, or that it is not."""
    if is_perfect(row):
        return ("perfect", row), factors(row)
    need_sum(sum(row), MOST_LED)
    wrong = [number for number, ways in enumerate(ways_to_pay(row)) if ways != 1]
    return ("not perfect", row), wrong[0]


def certify_balanced(row):
    """That a row is balanced; None if it is not."""
    return (("balanced", row), weights_factors(row)) if is_balanced(row) else None


def certify_fit(tally, rule):
    """That a cap rule fits a tally; None if it does not."""
    return (("fits", tally.counts, str(rule)), ()) if fits(tally, rule) else None


def certify_no_fit(tally):
    """That no cap rule fits a tally; None if some does."""
    _, crowd = given_or_crowd(asked_by(tally))
    return (("no fit", tally.counts), crowd) if crowd else None


def certify_next(tally, many):
    """That the next count can be so many, or that it cannot."""
    need_tally(tally)
    if not is_integer(many) or many < 0:
        raise InvalidNumber(many)
    if many not in next_counts(tally):
        return ("not next", tally.counts, many), ()
    return ("next", tally.counts, many), str(some_rule(Tally(tally.counts + (many,))))


def certify_worth(row):
    """What the worth of a row is."""
    return ("worth", row, worth(row)), ()


def certify_game(row):
    """That who is to move at a row loses, or can win."""
    moves = best_moves(row)
    if moves:
        return ("won", row), moves[0]
    return ("lost", row), ()


def certify_fished(row):
    """To which row an odd row is fished."""
    return ("fished", row, fished(row)), ()


def certify_vector(row, rods):
    """What the vector of a core is."""
    return ("vector", row, vector(row, rods)), ()


def certify_place(rule, row):
    """How many rows of its number that a rule lets are less than a row."""
    return ("place", str(rule), row, place_let(rule, row)), ()


def certify_ladders(rule, row):
    """How many ladders a row has by a rule."""
    many = ladders(rule, row)
    if not lets(rule, row):
        raise NotLet(row)
    return ("ladders", str(rule), row, many), tuple([(step, ladders(rule, step)) for step in steps_down(rule, row)])
