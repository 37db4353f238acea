"""Doubts: two worlds a move apart that keep the delays of couples, but answer a quarrel otherwise.

The functions here are passed checked values. A quarrel is told by its spots one and other: whether one is not later.
"""

from dueanywhere.bounds import with_bounds
from dueanywhere.bounds import world_of
from dueanywhere.kinds import are_ascending_indexes
from dueanywhere.kinds import is_integer
from dueanywhere.kinds import is_tuple_of
from dueanywhere.worlds import is_world


def some_doubt(system, couples, one, other):
    """A doubt that the couples leave of a quarrel, None if they settle it; the system has a world."""
    equal = [(one[0], other[0], other[1] - one[1]), (other[0], one[0], one[1] - other[1])]
    for raised in raised_points(system, couples, one[0], other[0]):
        world = world_of(with_bounds(with_room(system, raised), equal))
        if world is not None:
            return (world, move_of(system, raised))
    return None


def with_room(system, raised):
    """The system whose worlds are those in which these points can be raised by a minute, the others staying."""
    points, bounds = system
    return (points, tuple([(i, j, most - 1 if raised[i] and not raised[j] else most) for i, j, most in bounds]))


def move_of(system, raised):
    """The move that raises these points, or, if the point 0 is one of them, lowers the others."""
    way = -1 if raised[0] else 1
    return ([point for point in range(system[0]) if raised[point] != raised[0]], way)


def raised_points(system, couples, one, other):
    """All lists that tell for each point whether it is raised: one is, other is not, and both or none of a couple."""
    leaders = coupled(system, couples)
    if leaders[one] == leaders[other]:
        return []
    rows = [{leaders[one]: True, leaders[other]: False}]
    for leader in sorted(set(leaders)):
        if leader not in rows[0]:
            rows = [{**row, leader: told} for row in rows for told in (False, True)]
    return [[row[point] for point in leaders] for row in rows]


def coupled(system, couples):
    """For each point the least point that couples tie to it, one behind another."""
    leaders = list(range(system[0]))
    for (i, _), (j, _) in couples:
        low, high = min(leaders[i], leaders[j]), max(leaders[i], leaders[j])
        leaders = [low if leader == high else leader for leader in leaders]
    return leaders


def is_doubt_left(system, couples, one, other, value):
    """Whether value is a doubt that the couples leave of a quarrel."""
    if not is_tuple_of(2, value):
        return False
    world, move = value
    if not is_world(system, world) or not is_move(system, move):
        return False
    moved, way = move
    if any([(i in moved) != (j in moved) for (i, _), (j, _) in couples]):
        return False
    there = tuple([moment + way if point in moved else moment for point, moment in enumerate(world)])
    return is_world(system, there) and lead(world, one, other) == 0 and lead(there, one, other) == 1


def is_move(system, value):
    """Whether value is a move of points of the system."""
    if not is_tuple_of(2, value):
        return False
    moved, way = value
    if not are_ascending_indexes(system[0], moved) or not moved or moved[0] == 0:
        return False
    return is_integer(way) and way in (1, -1)


def lead(world, one, other):
    """How much later one is than other in a world."""
    return world[one[0]] + one[1] - world[other[0]] - other[1]
