"""Pasts: what may have happened ahead of a spot.

The functions of the interface check what they are passed; the others here are passed checked values.
"""

from dueanywhere.bounds import has_world
from dueanywhere.bounds import need_world
from dueanywhere.bounds import world_of
from dueanywhere.cuts import all_sets
from dueanywhere.cuts import narrowest_set
from dueanywhere.cuts import widest_set
from dueanywhere.errors import InvalidPast
from dueanywhere.kinds import are_ascending_indexes
from dueanywhere.kinds import check_spot
from dueanywhere.kinds import check_spots
from dueanywhere.kinds import check_system
from dueanywhere.orders import claimed_system
from dueanywhere.orders import moments_of
from dueanywhere.orders import system_of_spots
from dueanywhere.worlds import check_world


def check_asked(system, spots, at):
    """Raise an error if the system, the spots or the spot of a past are wrong."""
    check_system(system)
    check_spots(system, spots)
    check_spot(system, at)


def check_row(spots, row):
    """Raise InvalidPast if it is no ascending list of indexes of the spots."""
    if not are_ascending_indexes(len(spots), row):
        raise InvalidPast("this is no ascending list of indexes")


def past_items(system, spots, at):
    """The tuple (pairs, inside, outside), for cuts, of what brings what, of what is sure and of what never is."""
    check_asked(system, spots, at)
    need_world(system)
    return items_of_past(system, spots, at)


def items_of_past(system, spots, at):
    """What past_items returns, for a system with a world."""
    last = len(spots)
    _, bounds = system_of_spots(system, spots + [at])
    # These bounds are as narrow as can be: in some world the moment of b less that of a is just the most.
    pairs = [(a, b) for b, a, most in bounds if most <= 0 and a != last and b != last]
    inside = [b for b, a, most in bounds if most < 0 and a == last]
    outside = [a for b, a, most in bounds if most <= 0 and b == last]
    return (sorted(pairs), sorted(inside), sorted(outside))


def past_in(system, world, spots, at):
    """The past in a world."""
    check_system(system)
    check_world(system, world)
    check_spots(system, spots)
    check_spot(system, at)
    end = moments_of(world, [at])[0]
    return [index for index, when in enumerate(moments_of(world, spots)) if when < end]


def sure_past(system, spots, at):
    """The past that lies in all others."""
    pairs, inside, _ = past_items(system, spots, at)
    return narrowest_set(pairs, inside)


def widest_past(system, spots, at):
    """The past that has all others in it."""
    pairs, _, outside = past_items(system, spots, at)
    return widest_set(len(spots), pairs, outside)


def pasts(system, spots, at):
    """The ascending list of all pasts."""
    pairs, inside, outside = past_items(system, spots, at)
    return all_sets(len(spots), pairs, inside, outside)


def is_past(system, spots, at, value):
    """Whether value is the past in some world."""
    check_asked(system, spots, at)
    if not are_ascending_indexes(len(spots), value) or not has_world(system):
        return False
    return bar_of_past(system, spots, at, value) is None


def past_bar(system, spots, at, row):
    """What bars a row from being a past, None if it is one."""
    check_asked(system, spots, at)
    check_row(spots, row)
    need_world(system)
    return bar_of_past(system, spots, at, row)


def bar_of_past(system, spots, at, row):
    """What past_bar returns."""
    pairs, inside, outside = items_of_past(system, spots, at)
    for index in inside:
        if index not in row:
            return ("sure", index)
    for index in outside:
        if index in row:
            return ("never", index)
    for a, b in pairs:
        if a in row and b not in row:
            return ("brings", a, b)
    return None


def past_world(system, spots, at, row):
    """A world with this past."""
    check_asked(system, spots, at)
    check_row(spots, row)
    need_world(system)
    if bar_of_past(system, spots, at, row) is not None:
        raise InvalidPast("this is no past")
    claims = [(spot, at, -1) if index in row else (at, spot, 0) for index, spot in enumerate(spots)]
    return world_of(claimed_system(system, claims))
