"""What the next count of a hidden cap rule can be, and all rules that a tally leaves."""

from letparts.counts import counts_by_excesses
from letparts.errors import NoFit, TooMany
from letparts.giving import can_be_given, numbers_of, with_one_less
from letparts.limits import MOST_COUNTS
from letparts.rules import Caps
from letparts.tallies import asked_by, told_excesses

_MOST_GIVEN = 12
_MOST_WAYS = 200


def next_counts(tally):
    """All values that the count of the number behind the tally's length has by cap rules that fit, ascending."""
    asked = asked_by(tally)
    if not can_be_given(asked):
        raise NoFit()
    number = len(asked) + 1
    if number > MOST_COUNTS:
        raise TooMany(number)
    # Each ban that has the number as its sum takes one away.
    without_ban = counts_by_excesses(list(told_excesses(tally)) + [1])[number]
    found = []
    while can_be_given(asked + (len(found),)):
        found.append(without_ban - len(found))
    return tuple(found[::-1])


def _given(size, asked):
    """The pairs of each cap that a size can have, and of what is still asked then; None if it is not given."""
    found = [(None, asked)]
    for number in numbers_of(size, len(asked)):
        if asked[number - 1] > 0:
            found.append((number // size - 1, with_one_less(asked, number)))
    return found


def _heads(tally):
    """The caps of the sizes 1, 2, .. by all ways to give sizes."""
    asked = asked_by(tally)
    if len(asked) > _MOST_GIVEN:
        raise TooMany(len(asked))
    found = [((), asked)]
    for size in range(1, len(asked) + 1):
        ways = [(head + (cap,), left) for head, still in found for cap, left in _given(size, still)]
        # No greater size can be given to the number that is just the size.
        found = [(head, left) for head, left in ways if left[size - 1] == 0]
    return [head for head, _ in found]


def count_rules(tally):
    """In how many ways sizes can be given as a tally asks for them."""
    return len(_heads(tally))


def all_rules(tally):
    """The cap rules of all ways to give sizes, by their texts, ascending."""
    heads = _heads(tally)
    if len(heads) > _MOST_WAYS:
        raise TooMany(len(heads))
    return tuple(sorted([Caps(head, (None,)) for head in heads], key=str))
