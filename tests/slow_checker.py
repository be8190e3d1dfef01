"""The checker once more, word by word as the document tells it, by going through rows; for small claims alone."""

import itertools

from letparts.counts import counts
from letparts.errors import WrongValue
from letparts.rules import Caps, from_rule_text
from tests.helpers import listed_rows, rims_by_hooks, slow_lets


def is_int(value):
    return type(value) is int


def is_row(value):
    return (type(value) is tuple and all(is_int(part) and part >= 1 for part in value)
            and list(value) == sorted(value, reverse=True) and sum(value) <= 600)


def rule_of(text):
    try:
        return from_rule_text(text)
    except WrongValue:
        return None


def is_many(value):
    return is_int(value) and value >= 0


def is_tally(value, most=24):
    return type(value) is tuple and 1 <= len(value) <= most and all(map(is_many, value))


KINDS = {
    "R": lambda value: rule_of(value) is not None,
    "C": lambda value: isinstance(rule_of(value), Caps),
    "ROW": is_row,
    "N": lambda value: is_int(value) and 0 <= value <= 60,
    "A": is_many,
    "T": lambda value: is_int(value) and 2 <= value <= 9,
    "V": lambda value: type(value) is tuple and all(map(is_int, value)),
    "TALLY": is_tally,
    "SHORT": lambda value: is_tally(value, 23)}
FORMS = {
    "lets": "R ROW", "bars": "R ROW", "counts": "R N A", "alike": "R R", "unlike": "R R", "within": "R R",
    "not within": "R R", "exchanged": "C C ROW ROW", "core": "ROW T ROW", "garden": "ROW", "dealt": "ROW ROW",
    "round": "ROW", "worth": "ROW A", "lost": "ROW", "won": "ROW", "fished": "ROW ROW", "vector": "ROW V",
    "place": "R ROW A", "ladders": "R ROW A", "next": "SHORT A", "not next": "SHORT A", "perfect": "ROW",
    "balanced": "ROW", "not perfect": "ROW", "fits": "TALLY C", "no fit": "TALLY"}


def strict(value):
    """A value in which True and 1, a list and a tuple are not the same."""
    if isinstance(value, tuple):
        return ("tuple",) + tuple(strict(one) for one in value)
    return (type(value).__name__, value)


def same(value, expected):
    return strict(value) == strict(expected)


def let_rows(rule, number):
    return sorted(row for row in listed_rows(number) if slow_lets(rule, row))


def first_unlike(rule, other, known={}):
    """The first number up to 400 of which two rules let unequally many; that is enough for the rules of the tests."""
    for one in (rule, other):
        if str(one) not in known:
            known[str(one)] = counts(one, 400)
    pairs = zip(known[str(rule)], known[str(other)])
    return next((number for number, (one, many) in enumerate(pairs) if one != many), None)


def is_within(rule, other):
    """Whether a rule is within another one, as far as small rows tell."""
    return all(slow_lets(other, row) for number in range(11) for row in let_rows(rule, number))


def cap_of(rule, size):
    behind = size - 1 - len(rule.head)
    return rule.head[size - 1] if behind < 0 else rule.tail[behind % len(rule.tail)]


def bans_of(rule, number):
    """The sizes whose bans have this sum, ascending."""
    return [size for size in range(1, number + 1)
            if cap_of(rule, size) is not None and size * (cap_of(rule, size) + 1) == number]


def exchanged(rule, other, row, sizes):
    """The row for which a row is exchanged by taking out the bans of these sizes; None if this can't be done."""
    parts = list(row)
    for size in sizes:
        if not is_int(size) or size < 1 or cap_of(other, size) is None:
            return None
        number = size * (cap_of(other, size) + 1)
        ban = [size] * (cap_of(other, size) + 1)
        if parts.count(size) < len(ban):
            return None
        for part in ban:
            parts.remove(part)
        size = bans_of(rule, number)[bans_of(other, number).index(size)]
        parts += [size] * (number // size)
    return tuple(sorted(parts, reverse=True))


def strikes(row, rods):
    return [lower for hook, lower in rims_by_hooks(row) if hook == rods]


def dealt(row):
    return tuple(sorted([part - 1 for part in row if part > 1] + [len(row)] * (row != ()), reverse=True))


def worth(row, known={}):
    if row not in known:
        below = {worth(lower) for _, lower in rims_by_hooks(row)}
        known[row] = min(set(range(len(below) + 1)) - below)
    return known[row]


def fished(row):
    """An odd row as a figure about one middle column, of which hooks are taken off by turns."""
    boxes = {(line, at) for line, part in enumerate(row) for at in range(-(part // 2), part // 2 + 1)}
    found = []
    turn = 0
    while boxes:
        line = turn // 2
        if turn % 2 == 0:
            taken = {(y, x) for y, x in boxes if y == line and x >= -line or x == -line}
        else:
            taken = {(y, x) for y, x in boxes if y == line and x <= -line or x == line + 1}
        found.append(len(taken))
        boxes -= taken
        turn += 1
    return tuple(part for part in found if part)


def vector_of(row, rods):
    many = -(-len(row) // rods) * rods
    places = [part + many - at for at, part in enumerate(row + (0,) * (many - len(row)), start=1)]
    return tuple(sum(place % rods == rod for place in places) - many // rods for rod in range(rods))


def steps_down(rule, row):
    lower = {row[:at] + (row[at] - 1,) + row[at + 1:] for at in range(len(row))}
    lower = {tuple(part for part in low if part) for low in lower if list(low) == sorted(low, reverse=True)}
    return sorted(low for low in lower if slow_lets(rule, low))


def ladders(rule, row):
    if not slow_lets(rule, row):
        return 0
    return 1 if row == () else sum(ladders(rule, low) for low in steps_down(rule, row))


def counts_let(rule, most):
    """How many rows of 1, 2, .. a rule lets."""
    return tuple(len(let_rows(rule, number)) for number in range(1, most + 1))


def next_counts(tally, known={}):
    """All counts that come behind a tally by cap rules that let as many rows of its numbers as it tells."""
    length = len(tally) + 1
    if length not in known:
        known[length] = {}
        for caps in itertools.product(*[
                [None] + [cap for cap in range(7) if size * (cap + 1) <= length] for size in range(1, length + 1)]):
            found = counts(Caps(caps, (None,)), length)[1:]
            known[length].setdefault(found[:-1], set()).add(found[-1])
    return known[length].get(tally, set())


def ways(row, weigh):
    """How many ways there are to pay, or weigh, each number up to the sum."""
    found = [0] * (sum(row) + 1)
    sizes = sorted(set(row))
    for times in itertools.product(*[range(-row.count(size) if weigh else 0, row.count(size) + 1) for size in sizes]):
        total = sum(size * many for size, many in zip(sizes, times))
        if total >= 0:
            found[total] += 1
    return found


def made_of(row, paper, weigh):
    """Whether a paper is the tuple of integers that a row is made of."""
    if type(paper) is not tuple or not all(is_int(one) and 2 <= one <= 1201 for one in paper):
        return False
    made = ()
    size = 1
    for one in paper:
        if weigh and one % 2 == 0:
            return False
        made = (size,) * ((one - 1) // 2 if weigh else one - 1) + made
        size *= one
    return made == row


def asked(tally):
    """How many bans must have each number as their sum."""
    found = []
    for number in range(1, len(tally) + 1):
        series = [1] + [0] * number
        for at, many in enumerate(found, start=1):
            for _ in range(abs(1 - many)):
                if many < 1:
                    for k in range(at, number + 1):
                        series[k] += series[k - at]
                else:
                    for k in range(number, at - 1, -1):
                        series[k] -= series[k - at]
        found.append(1 - (tally[number - 1] - series[number]))
    return found


def is_crowd(tally, paper):
    if type(paper) is not tuple or not all(is_int(one) and 1 <= one <= len(tally) for one in paper):
        return False
    if list(paper) != sorted(set(paper)):
        return False
    many = asked(tally)
    if len(paper) == 1 and many[paper[0] - 1] < 0:
        return True
    sizes = {size for one in paper for size in range(1, one + 1) if one % size == 0 and one // size <= 7}
    return sum(max(0, many[one - 1]) for one in paper) > len(sizes)


def is_round(row, paper):
    if type(paper) is not tuple or not paper or not all(map(is_row, paper)):
        return False
    path = [row]
    for _ in paper:
        path.append(dealt(path[-1]))
    return path[1:] == list(paper) and paper.index(row) == len(paper) - 1 if row in paper else False


def is_struck(row, rods, end, paper):
    if type(paper) is not tuple or not all(map(is_row, paper)):
        return False
    path = (row,) + paper
    return (all(low in strikes(high, rods) for high, low in zip(path, paper)) and path[-1] == end
            and not strikes(end, rods))


def is_bans_row(rule, row, paper):
    if not is_row(paper) or any(paper.count(part) > row.count(part) for part in paper):
        return False
    if isinstance(rule, Caps):
        return len(set(paper)) == 1 and cap_of(rule, paper[0]) == len(paper) - 1
    return paper in rule.bans


def is_exchange(rule, other, row, end, paper):
    if sum(row) > 60 or not slow_lets(rule, row) or first_unlike(rule, other) is not None or type(paper) is not tuple:
        return False
    return exchanged(rule, other, row, paper) == end and slow_lets(other, end)


def shows(word, told, paper):
    """Whether a paper shows a claim that has its form."""
    none = same(paper, ())
    rules = [rule_of(value) for value in told if isinstance(value, str)]
    first = told[0]
    last = told[-1]
    if word in ("lets", "bars"):
        return none and slow_lets(rules[0], last) if word == "lets" else is_bans_row(rules[0], last, paper)
    if word == "counts":
        every = rules[0] if isinstance(rules[0], Caps) else Caps((), (None,))
        many = tuple(len(let_rows(every, number)) for number in range(told[1] + 1))
        return len(let_rows(rules[0], told[1])) == last and same(paper, many)
    if word in ("alike", "unlike"):
        number = first_unlike(rules[0], rules[1])
        return number is None and none if word == "alike" else number is not None and same(paper, number)
    if word in ("within", "not within"):
        if word == "within":
            return none and is_within(rules[0], rules[1])
        return is_row(paper) and slow_lets(rules[0], paper) and not slow_lets(rules[1], paper)
    if word == "exchanged":
        return is_exchange(rules[0], rules[1], told[2], last, paper)
    if word == "core":
        return is_struck(first, told[1], last, paper)
    if word in ("garden", "dealt"):
        if word == "dealt":
            return none and dealt(first) == last
        return none and not any(dealt(row) == first for row in listed_rows(sum(first)))
    if word == "round":
        return is_round(first, paper)
    return shows_more(word, told, paper, none, rules)


def shows_more(word, told, paper, none, rules):
    first = told[0]
    last = told[-1]
    if word in ("worth", "lost", "won"):
        if word == "won":
            return is_row(paper) and worth(paper) == 0 and paper in [lower for _, lower in rims_by_hooks(first)]
        return none and worth(first) == (last if word == "worth" else 0)
    if word == "fished":
        return none and all(part % 2 for part in first) and fished(first) == last
    if word == "vector":
        rods = len(last)
        return none and 2 <= rods <= 9 and not strikes(first, rods) and vector_of(first, rods) == last
    if word == "place":
        found = let_rows(rules[0], sum(told[1])) if sum(told[1]) <= 60 else []
        return none and told[1] in found and found.index(told[1]) == last
    if word == "ladders":
        steps = tuple((low, ladders(rules[0], low)) for low in steps_down(rules[0], told[1]))
        return (sum(told[1]) <= 24 and slow_lets(rules[0], told[1]) and ladders(rules[0], told[1]) == last
                and same(paper, steps))
    if word == "next":
        rule = rule_of(paper)
        return isinstance(rule, Caps) and counts_let(rule, len(first) + 1) == first + (last,)
    if word == "not next":
        return none and next_counts(first) != set() and last not in next_counts(first)
    if word in ("perfect", "balanced"):
        weigh = word == "balanced"
        return set(ways(first, weigh)) == {1} and made_of(first, paper, weigh)
    if word == "not perfect":
        return sum(first) <= 60 and is_int(paper) and 0 <= paper <= sum(first) and ways(first, False)[paper] != 1
    if word == "fits":
        return none and counts_let(rules[0], len(first)) == first
    return is_crowd(first, paper)


def accepts(claim, paper):
    """Whether the checker is to accept a claim with a paper."""
    if type(claim) is not tuple or not claim or type(claim[0]) is not str or claim[0] not in FORMS:
        return False
    kinds = FORMS[claim[0]].split()
    if len(kinds) != len(claim) - 1 or not all(KINDS[kind](value) for kind, value in zip(kinds, claim[1:])):
        return False
    return shows(claim[0], claim[1:], paper)
