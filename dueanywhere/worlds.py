"""Worlds of a system: some, lowest, highest, all, walks from one to another, and the nearest one to a wish.

The functions of the interface check what they are passed; the others here are passed checked values.
"""

from dueanywhere.bounds import all_gaps
from dueanywhere.bounds import is_bad_ring
from dueanywhere.bounds import need_world
from dueanywhere.bounds import with_bounds
from dueanywhere.bounds import world_of
from dueanywhere.errors import EndlessWorlds
from dueanywhere.errors import InvalidNumber
from dueanywhere.errors import InvalidWorld
from dueanywhere.kinds import are_moments
from dueanywhere.kinds import check_integer
from dueanywhere.kinds import check_moments
from dueanywhere.kinds import check_number_from
from dueanywhere.kinds import check_points
from dueanywhere.kinds import check_system
from dueanywhere.kinds import is_number_from


def broken_bound(system, moments):
    """The least index of a bound that the moments do not keep, None if they keep all."""
    for index, (i, j, most) in enumerate(system[1]):
        if moments[i] - moments[j] > most:
            return index
    return None


def check_world(system, world):
    """Raise InvalidWorld if it is no world of the system."""
    if not is_world(system, world):
        raise InvalidWorld("this is no world of the system")


def check_worlds(system, world, other_world):
    """Raise InvalidWorld if one of both is no world of the system."""
    check_world(system, world)
    check_world(system, other_world)


def is_world(system, value):
    """Whether value is a world of the system."""
    check_system(system)
    return are_moments(system, value) and broken_bound(system, value) is None


def first_broken(system, moments):
    """The least index of a bound that the moments do not keep, None if they keep all."""
    check_system(system)
    check_moments(system, moments)
    return broken_bound(system, moments)


def some_world(system):
    """A world of the system."""
    check_system(system)
    need_world(system)
    return world_of(system)


def lowest(system):
    """The tuple of the least moment of each point, None where there is none."""
    check_system(system)
    need_world(system)
    return lowest_moments(all_gaps(system))


def highest(system):
    """The tuple of the greatest moment of each point, None where there is none."""
    check_system(system)
    need_world(system)
    return highest_moments(all_gaps(system))


def lowest_moments(gaps):
    """The least moments, by the table of the greatest gaps."""
    return tuple([None if gap is None else -gap for gap in gaps[0]])


def highest_moments(gaps):
    """The greatest moments, by the table of the greatest gaps."""
    return tuple([row[0] for row in gaps])


def world_with(system, i, j, difference):
    """A world in which the moment of i less that of j is the difference."""
    check_system(system)
    check_points(system, i, j)
    check_integer(difference)
    need_world(system)
    world = world_at(system, i, j, difference)
    if world is None:
        raise InvalidNumber("the difference comes in no world")
    return world


def world_at(system, i, j, difference):
    """A world with this difference of i and j, None if it comes in none."""
    if i == j:
        return world_of(system) if difference == 0 else None
    return world_of(with_bounds(system, [(i, j, difference), (j, i, -difference)]))


def lesser_moments(one, other):
    """Point by point the lesser ones of the moments of two worlds."""
    return tuple([min(a, b) for a, b in zip(one, other)])


def greater_moments(one, other):
    """Point by point the greater ones of the moments of two worlds."""
    return tuple([max(a, b) for a, b in zip(one, other)])


def shifted(moments, amount):
    """All moments put on by the amount, that of the point 0 too."""
    return tuple([moment + amount for moment in moments])


def greatest_rise(one, other):
    """How far the point that rises most rises from one world to the other, 0 if none does."""
    return max([b - a for a, b in zip(one, other)])


def lesser(system, world, other_world):
    """The world of the lesser moments of both worlds."""
    check_system(system)
    check_worlds(system, world, other_world)
    return lesser_moments(world, other_world)


def greater(system, world, other_world):
    """The world of the greater moments of both worlds."""
    check_system(system)
    check_worlds(system, world, other_world)
    return greater_moments(world, other_world)


def moves_between(system, world, other_world):
    """The fewest moves from one world to the other."""
    check_system(system)
    check_worlds(system, world, other_world)
    return greatest_rise(world, other_world) + greatest_rise(other_world, world)


def walk(system, world, other_world):
    """The list of the worlds that a row of fewest moves passes, both ends in it."""
    check_system(system)
    check_worlds(system, world, other_world)
    # All moments put on alike keep the bounds, and so do the lesser ones of two rows of moments. Both rows have
    # the point 0 at 0 or above it, one of them at 0; so these are worlds. Falling goes likewise.
    top = greater_moments(world, other_world)
    rises = [lesser_moments(top, shifted(world, step)) for step in range(greatest_rise(world, top))]
    falls = [greater_moments(other_world, shifted(top, -step)) for step in range(greatest_rise(other_world, top) + 1)]
    return rises + falls


def count_worlds(system):
    """The number of worlds, None if there are endlessly many."""
    check_system(system)
    need_world(system)
    found = all_worlds(system)
    return None if found is None else len(found)


def worlds(system):
    """The ascending list of all worlds."""
    check_system(system)
    need_world(system)
    found = all_worlds(system)
    if found is None:
        raise EndlessWorlds("the system has endlessly many worlds")
    return found


def all_worlds(system):
    """The ascending list of the worlds of a system with a world, None if they are endlessly many."""
    gaps = all_gaps(system)
    if None in lowest_moments(gaps) or None in highest_moments(gaps):
        return None
    found = [(0,)]
    for _ in range(1, system[0]):
        found = [start + (moment,) for start in found for moment in next_moments(gaps, start)]
    return found


def next_moments(gaps, start):
    """The ascending list of the moments of the next point in the worlds that begin with start.

    Each of them comes in a world, as the table has the least sums of all chains.
    """
    point = len(start)
    low = max([moment - gaps[i][point] for i, moment in enumerate(start)])
    high = min([moment + gaps[point][i] for i, moment in enumerate(start)])
    return list(range(low, high + 1))


def near(system, wish, amount):
    """The system with, behind its bounds, those that hold each point near its wish by the amount."""
    check_system(system)
    check_moments(system, wish)
    check_number_from(0, amount)
    return near_system(system, wish, amount)


def near_system(system, wish, amount):
    """What near returns, for a wish and any integer as amount."""
    more = []
    for i in range(1, system[0]):
        more.append((i, 0, wish[i] + amount))
        more.append((0, i, amount - wish[i]))
    return with_bounds(system, more)


def nearest(system, wish):
    """The tuple of the least distance from the wish and a world with it."""
    check_system(system)
    check_moments(system, wish)
    need_world(system)
    least = least_distance(all_gaps(system), wish)
    return (least, world_of(near_system(system, wish, least)))


def least_distance(gaps, wish):
    """The least distance of a world from the wish, by the table of the greatest gaps."""
    least = 0
    for i, row in enumerate(gaps):
        for j, gap in enumerate(row):
            if gap is not None:
                missing = wish[i] - wish[j] - gap
                # Two points share what is missing between them, each half of it; the point 0 stays at its wish.
                share = missing if i == 0 or j == 0 else (missing + 1) // 2
                least = max(least, share)
    return least


def shows_far(system, wish, number, value):
    """Whether value shows that the least distance from the wish is at least number, an integer from 1 on."""
    check_system(system)
    check_moments(system, wish)
    return is_number_from(1, number) and is_bad_ring(near_system(system, wish, number - 1), value)
