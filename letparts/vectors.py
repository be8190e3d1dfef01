"""Cores as vectors, rows raised, and the rod signs of rows."""

from letparts.checks import is_integer, need_rods, need_row, need_sum
from letparts.errors import InvalidVector, NotACore
from letparts.limits import MOST_RODS
from letparts.parts import places_of, row_of_moved
from letparts.rods import beads, core_of_beads, is_core, rod_places


def vector(row, rods):
    """For each rod how many beads of a core are on it, less the number that would be if all had equally many."""
    if not is_core(row, rods):
        raise NotACore(row)
    many = [len(heights) for heights in beads(row, rods)]
    even = sum(many) // rods
    return tuple([own - even for own in many])


def _need_vector(value):
    """InvalidVector for what is no tuple of two to nine integers with the sum 0."""
    if not isinstance(value, tuple):
        raise InvalidVector(None)
    for at, own in enumerate(value):
        if at == MOST_RODS or not is_integer(own):
            raise InvalidVector(at)
    if len(value) < 2:
        raise InvalidVector(len(value))
    if sum(value) != 0:
        raise InvalidVector(None)


def from_vector(vector):
    """The core with this vector."""
    _need_vector(vector)
    twice = len(vector) * sum([own * own for own in vector]) + 2 * sum([rod * own for rod, own in enumerate(vector)])
    need_sum(twice // 2)
    even = -min(vector)
    return core_of_beads([own + even for own in vector])


def raises(row, rods):
    """All rows to which a row can be raised once, ascending."""
    need_row(row)
    need_rods(rods)
    need_sum(sum(row) + rods)
    places = places_of(row, len(rod_places(row, rods)) + rods)
    raised = [place for place in places if place + rods not in places]
    return tuple(sorted([row_of_moved(places, place, place + rods) for place in raised]))


def rod_sign(row, rods):
    """1 if all strikes down to the core jump an even number of beads together, else -1."""
    need_row(row)
    need_rods(rods)
    lying = [0] * rods
    ends = []
    for place in rod_places(row, rods)[::-1]:
        rod = place % rods
        ends.append(rod + rods * lying[rod])
        lying[rod] += 1
    # Each jump changes the order of two beads, so those that end in another order than they began tell them all.
    jumps = sum([len([end for end in ends[:at] if end > own]) for at, own in enumerate(ends)])
    return 1 if jumps % 2 == 0 else -1
