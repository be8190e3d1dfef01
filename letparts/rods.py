"""Beads on rods: rows struck down to their cores, and told by their cores and threads."""

from math import comb, gcd

from letparts.checks import is_row, need_number, need_rods, need_row, need_sum
from letparts.counts import counts_by_excesses
from letparts.errors import InvalidThreads, NotACore, TooMany
from letparts.limits import MOST_LISTED
from letparts.parts import places_of, row_of_moved, row_of_places
from letparts.rows import all_rows

_MOST_BOTH = 500


def rod_places(row, rods):
    """The places of the beads of a row, falling, with as many noughts behind as the rods ask for."""
    lots = (len(row) + rods - 1) // rods
    return places_of(row, lots * rods)


def beads(row, rods):
    """For each rod the ascending heights of its beads."""
    need_row(row)
    need_rods(rods)
    heights = [[] for _ in range(rods)]
    for place in rod_places(row, rods)[::-1]:
        heights[place % rods].append(place // rods)
    return tuple([tuple(own) for own in heights])


def core_of_beads(many):
    """The core that has so many beads on each rod."""
    rods = len(many)
    return row_of_places([rod + rods * height for rod in range(rods) for height in range(many[rod])])


def core(row, rods):
    """The core that is left when a row is struck as long as it can be."""
    return core_of_beads([len(heights) for heights in beads(row, rods)])


def is_core(row, rods):
    """Whether a row can't be struck."""
    return core(row, rods) == row


def threads(row, rods):
    """The threads of all rods."""
    # The heights of a rod's beads are to its thread what the places of all beads are to the row.
    return tuple([row_of_places(heights) for heights in beads(row, rods)])


def _need_threads(rods, value):
    """InvalidThreads for what is no tuple of so many rows as there are rods."""
    if not isinstance(value, tuple):
        raise InvalidThreads(None)
    for at, thread in enumerate(value):
        if at == rods or not is_row(thread):
            raise InvalidThreads(at)
    if len(value) < rods:
        raise InvalidThreads(len(value))


def from_threads(rods, core, threads):
    """The row with this core and these threads."""
    need_rods(rods)
    need_row(core)
    _need_threads(rods, threads)
    if not is_core(core, rods):
        raise NotACore(core)
    need_sum(sum(core) + rods * sum([sum(thread) for thread in threads]))
    # With so many beads more on each rod there are enough for each thread.
    more = max([len(thread) for thread in threads])
    places = []
    for rod, heights in enumerate(beads(core, rods)):
        places += [rod + rods * height for height in places_of(threads[rod], len(heights) + more)]
    return row_of_places(places)


def strikes(row, rods):
    """All rows to which a row can be struck once, ascending."""
    need_row(row)
    need_rods(rods)
    places = rod_places(row, rods)
    struck = [place for place in places if place >= rods and place - rods not in places]
    return tuple(sorted([row_of_moved(places, place, place - rods) for place in struck]))


def count_cores(number, rods):
    """How many rows of the number are cores."""
    need_number(number)
    need_rods(rods)
    # All rows are a core and a thread for each rod, so each multiple of the rods has so many sizes more in all rows.
    return counts_by_excesses([1 - rods if m % rods == 0 else 1 for m in range(1, number + 1)])[number]


def cores(number, rods):
    """All rows of the number that are cores, ascending."""
    need_number(number, MOST_LISTED)
    need_rods(rods)
    return tuple([row for row in all_rows(number) if is_core(row, rods)])


def count_both(rods, more):
    """How many rows are cores for both numbers of rods."""
    need_rods(rods)
    need_rods(more)
    divisor = gcd(rods, more)
    if divisor > 1:
        raise TooMany(divisor)
    return comb(rods + more, rods) // (rods + more)


def _cannot_fall(place, step, places):
    """Whether a bead at a place cannot fall by a step if just these are the places of lesser beads."""
    return place < step or place - step in places


def both_cores(rods, more):
    """All rows that are cores for both numbers of rods, by their sums, then as tuples."""
    many = count_both(rods, more)
    if many > _MOST_BOTH:
        raise TooMany(many)
    # No bead lies at 0, noughts being left out, so none lies where steps of both lengths can lead down to 0; from the
    # product of both on all places are such.
    lots = [()]
    for place in range(1, rods * more):
        lots = lots + [
            lot + (place,) for lot in lots if _cannot_fall(place, rods, lot) and _cannot_fall(place, more, lot)]
    return tuple(sorted([row_of_places(lot) for lot in lots], key=lambda row: (sum(row), row)))
