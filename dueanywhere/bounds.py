"""Systems of bounds: chains, rings, greatest gaps, needed bounds, slack and alike systems.

The functions of the interface check what they are passed; the others here are passed checked values.
"""

from dueanywhere.errors import InvalidSystem
from dueanywhere.errors import NoWorld
from dueanywhere.kinds import are_indexes
from dueanywhere.kinds import check_bounds
from dueanywhere.kinds import check_index
from dueanywhere.kinds import check_integer
from dueanywhere.kinds import check_points
from dueanywhere.kinds import check_system
from dueanywhere.kinds import is_integer
from dueanywhere.kinds import is_number_from
from dueanywhere.kinds import is_whole_system


def settle(system):
    """The tuple (moments, ring): a list of moments that keep all bounds and None, or None and a bad ring.

    The moment of the point 0 need not be 0.
    """
    points, bounds = system
    moments = [0] * points
    steps = [None] * points
    for _ in range(points):
        lowered = None
        for index, (i, j, most) in enumerate(bounds):
            if moments[i] > moments[j] + most:
                moments[i] = moments[j] + most
                steps[i] = index
                lowered = i
        if lowered is None:
            return moments, None
    return None, ring_of_steps(bounds, steps, lowered)


def ring_of_steps(bounds, steps, point):
    """The ring into which the steps lead, steps being for each point the index of its last bound."""
    # What was lowered in the last round has at least as many steps ahead of it as there are points,
    # so behind so many steps the point stands on a ring.
    for _ in range(len(steps)):
        point = bounds[steps[point]][1]
    ring = [steps[point]]
    while bounds[ring[-1]][1] != point:
        ring.append(steps[bounds[ring[-1]][1]])
    return ring


def world_of(system):
    """A world of the system, None if there is none."""
    moments, _ = settle(system)
    if moments is None:
        return None
    return tuple([moment - moments[0] for moment in moments])


def has_world(system):
    """Whether the system has a world."""
    return world_of(system) is not None


def need_world(system):
    """Raise NoWorld with a bad ring if there is no world."""
    _, ring = settle(system)
    if ring is not None:
        raise NoWorld(ring)


def with_bounds(system, bounds):
    """The system with further bounds behind its own."""
    return (system[0], system[1] + tuple(bounds))


def without_bound(system, index):
    """The system without the bound of this index."""
    points, bounds = system
    return (points, bounds[:index] + bounds[index + 1:])


def loosened_by(system, amount):
    """The system with each most greater by the amount."""
    points, bounds = system
    return (points, tuple([(i, j, most + amount) for i, j, most in bounds]))


def gaps_over(system, goal):
    """The tuple (sums, steps): for each point its greatest gap over goal, and the first bound of a chain with this sum.

    The system has a world. Without a chain both are None; at goal the step is None.
    """
    points, bounds = system
    sums = [None] * points
    steps = [None] * points
    sums[goal] = 0
    lowered = True
    while lowered:
        lowered = False
        for index, (i, j, most) in enumerate(bounds):
            if sums[j] is not None and (sums[i] is None or sums[i] > sums[j] + most):
                sums[i] = sums[j] + most
                steps[i] = index
                lowered = True
    return sums, steps


def gap_over(system, i, j):
    """The greatest gap of i over j in a system with a world."""
    sums, _ = gaps_over(system, j)
    return sums[i]


def least_chain(system, i, j):
    """A chain from i to j with the least sum in a system with a world, None if there is no chain."""
    sums, steps = gaps_over(system, j)
    if sums[i] is None:
        return None
    chain = []
    while i != j:
        chain.append(steps[i])
        i = system[1][steps[i]][1]
    return chain


def all_gaps(system):
    """The table of the greatest gaps in a system with a world."""
    points, _ = system
    columns = [gaps_over(system, j)[0] for j in range(points)]
    return [[column[i] for column in columns] for i in range(points)]


def is_chain(system, i, j, value):
    """Whether value is a chain from i to j."""
    bounds = system[1]
    if not are_indexes(len(bounds), value):
        return False
    for index in value:
        if bounds[index][0] != i:
            return False
        i = bounds[index][1]
    return i == j


def is_ring(system, value):
    """Whether value is a ring."""
    bounds = system[1]
    if not are_indexes(len(bounds), value) or not value:
        return False
    first = bounds[value[0]][0]
    starts = [bounds[index][0] for index in value]
    return is_chain(system, first, first, value) and len(set(starts)) == len(starts)


def sum_of(system, chain):
    """The sum of a chain."""
    return sum([system[1][index][2] for index in chain])


def world_outside(system, other_system):
    """A world of the system that breaks a bound of the other one, None if there is none."""
    for i, j, most in other_system[1]:
        world = world_of(with_bounds(system, [(j, i, -most - 1)]))
        if world is not None:
            return world
    return None


def is_idle(system, index):
    """Whether the bound of this index is idle."""
    points, bounds = system
    return world_outside(without_bound(system, index), (points, (bounds[index],))) is None


def is_system(value):
    """Whether value is a system."""
    return is_whole_system(value)


def plus(system, bounds):
    """The system with further bounds behind its own."""
    check_system(system)
    check_bounds(system, bounds)
    return with_bounds(system, bounds)


def without(system, index):
    """The system without one bound."""
    check_system(system)
    check_index(len(system[1]), index)
    return without_bound(system, index)


def loosened(system, amount):
    """The system with each most greater by the amount."""
    check_system(system)
    check_integer(amount)
    return loosened_by(system, amount)


def bad_ring(system):
    """A bad ring, None if there is a world."""
    check_system(system)
    return settle(system)[1]


def is_bad_ring(system, value):
    """Whether value is a bad ring."""
    check_system(system)
    return is_ring(system, value) and sum_of(system, value) < 0


def greatest_gap(system, i, j):
    """The greatest gap of i over j, None if there is no greatest one."""
    check_system(system)
    check_points(system, i, j)
    need_world(system)
    return gap_over(system, i, j)


def chain_for(system, i, j):
    """A chain from i to j with the greatest gap as its sum, None if there is no chain."""
    check_system(system)
    check_points(system, i, j)
    need_world(system)
    return least_chain(system, i, j)


def shows_most(system, i, j, number, value):
    """Whether value is a chain from i to j with a sum of at most number."""
    check_system(system)
    check_points(system, i, j)
    return is_integer(number) and is_chain(system, i, j, value) and sum_of(system, value) <= number


def deciding(system, i, j):
    """The ascending list of the bounds that are deciding for i and j."""
    check_system(system)
    check_points(system, i, j)
    need_world(system)
    chain = least_chain(system, i, j)
    if chain is None:
        return []
    # Without a bound of one least chain the gap stays or grows; a bound beside this chain decides nothing.
    least = sum_of(system, chain)
    return sorted([index for index in chain if gap_over(without_bound(system, index), i, j) != least])


def table(system):
    """The list of lists of the greatest gaps: entry j of list i is that of i over j."""
    check_system(system)
    need_world(system)
    return all_gaps(system)


def groups(system):
    """The lists of tied points, ordered by their first points."""
    check_system(system)
    need_world(system)
    gaps = all_gaps(system)
    ties = [[j for j in range(system[0]) if are_tied(gaps, i, j)] for i in range(system[0])]
    return [tied for i, tied in enumerate(ties) if tied[0] == i]


def are_tied(gaps, i, j):
    """Whether the difference of both points is the same in all worlds."""
    return gaps[i][j] is not None and gaps[j][i] is not None and gaps[i][j] + gaps[j][i] == 0


def idle(system):
    """The ascending list of all idle bounds, each by itself."""
    check_system(system)
    return [index for index in range(len(system[1])) if is_idle(system, index)]


def needed(system):
    """The ascending list of the needed bounds."""
    check_system(system)
    rest = system
    kept = []
    for index in reversed(range(len(system[1]))):
        if is_idle(rest, index):
            rest = without_bound(rest, index)
        else:
            kept.append(index)
    return sorted(kept)


def slack(system):
    """The least integer from 0 on by which the loosened system has a world."""
    check_system(system)
    return least_slack(system)


def least_slack(system):
    """The slack of a system, looked for between what a ring shows and what surely is enough."""
    least = 0
    # With no most below 0 the world in which all moments are 0 keeps all bounds.
    enough = max([0] + [-bound[2] for bound in system[1]])
    while least < enough:
        middle = (least + enough) // 2
        _, ring = settle(loosened_by(system, middle))
        if ring is None:
            enough = middle
        else:
            least = -(sum_of(system, ring) // len(ring))
    return least


def slack_ring(system):
    """A ring that shows the slack, None if the slack is 0."""
    check_system(system)
    least = least_slack(system)
    if least == 0:
        return None
    return settle(loosened_by(system, least - 1))[1]


def shows_slack(system, number, value):
    """Whether value is a ring that shows that the slack is at least number, an integer from 1 on."""
    check_system(system)
    if not is_number_from(1, number) or not is_ring(system, value):
        return False
    return sum_of(system, value) + (number - 1) * len(value) < 0


def are_alike(system, other_system):
    """Whether both systems have as many points and the same worlds."""
    check_system(system)
    check_system(other_system)
    return system[0] == other_system[0] and parting_world(system, other_system) is None


def parting(system, other_system):
    """A world of one system alone, behind 0 if it is the first one's and 1 if the second one's; None for alike ones."""
    check_system(system)
    check_system(other_system)
    if system[0] != other_system[0]:
        raise InvalidSystem("the systems have unlike numbers of points")
    return parting_world(system, other_system)


def parting_world(system, other_system):
    """What parting returns, for systems with as many points."""
    world = world_outside(system, other_system)
    if world is not None:
        return (0, world)
    world = world_outside(other_system, system)
    if world is not None:
        return (1, world)
    return None
