"""Charges of delays and tariffs: least totals, best worlds, moves that better a world, and balances.

The functions of the interface check what they are passed; the others here are passed checked values. There an arc is a
tuple (i, j, most, low, high): what is carried along it, from low to high (None for no end), leaves i and enters j, and
each one of it costs most. A balance is what is carried along the arcs of the charges and of the bounds such that as
much leaves each point as enters it; it tells what it costs, with the other sign.
"""

from dueanywhere.bounds import gaps_over
from dueanywhere.bounds import has_world
from dueanywhere.bounds import need_world
from dueanywhere.bounds import world_of
from dueanywhere.errors import InvalidCharges
from dueanywhere.errors import InvalidTariffs
from dueanywhere.kinds import check_integer
from dueanywhere.kinds import check_spot
from dueanywhere.kinds import check_system
from dueanywhere.kinds import is_integer
from dueanywhere.kinds import is_number_from
from dueanywhere.kinds import is_spot
from dueanywhere.kinds import is_tuple_of
from dueanywhere.orders import claimed_system
from dueanywhere.orders import gap_ends
from dueanywhere.orders import never_holds
from dueanywhere.worlds import check_world


def is_charge(system, value):
    """Whether value is a charge of the delay of two spots of the system."""
    if not is_tuple_of(5, value):
        return False
    first, second, at, early, late = value
    if not is_spot(system, first) or not is_spot(system, second) or not is_integer(at):
        return False
    return is_number_from(0, early) and is_number_from(0, late)


def check_charges(system, charges):
    """Raise InvalidCharges if these are no list of charges."""
    if not isinstance(charges, list) or not all([is_charge(system, charge) for charge in charges]):
        raise InvalidCharges("these are no list of charges")


def check_asked(system, charges):
    """Raise an error if the system or the charges are wrong."""
    check_system(system)
    check_charges(system, charges)


def total_in(charges, world):
    """The total of charges in a world."""
    found = 0
    for (i, shift), (j, other_shift), at, early, late in charges:
        delay = world[j] + other_shift - world[i] - shift
        found += early * (at - delay) if delay < at else late * (delay - at)
    return found


def total(system, charges, world):
    """The total of charges in a world."""
    check_asked(system, charges)
    check_world(system, world)
    return total_in(charges, world)


def charge_arcs(charges):
    """For each charge its arc, along which its pull is carried."""
    found = []
    for (i, shift), (j, other_shift), at, early, late in charges:
        found.append((j, i, at - other_shift + shift, -early, late))
    return found


def arcs_of(system, charges):
    """The arcs of the charges and, behind them, those of the bounds."""
    return charge_arcs(charges) + [(i, j, most, 0, None) for i, j, most in system[1]]


def amount_for(world, arc):
    """What is carried along an arc so that carrying neither more nor less along it pays in a world."""
    i, j, most, low, high = arc
    difference = world[i] - world[j]
    if difference < most:
        return low
    return high if difference > most else 0


def entering(points, arcs, amounts):
    """For each point how much more enters it than leaves it."""
    found = [0] * points
    for (i, j, _, _, _), amount in zip(arcs, amounts):
        found[i] -= amount
        found[j] += amount
    return found


def steps_left(arcs, amounts):
    """The list of tuples (i, j, most, index, way, room): along which arc how much more, or less, can be carried."""
    found = []
    for index, (i, j, most, low, high) in enumerate(arcs):
        amount = amounts[index]
        if i != j and (high is None or amount < high):
            found.append((i, j, most, index, 1, None if high is None else high - amount))
        if i != j and amount > low:
            found.append((j, i, -most, index, -1, amount - low))
    return found


def bounds_of(steps):
    """The bounds that steps are."""
    return tuple([(i, j, most) for i, j, most, _, _, _ in steps])


def even_amounts(system, charges):
    """What is carried along each arc by a balance that tells the least total, for a system with a world."""
    points, _ = system
    arcs = arcs_of(system, charges)
    world = world_of(system)
    amounts = [amount_for(world, arc) for arc in arcs]
    more = entering(points, arcs, amounts)
    # Carrying along ways with least sums keeps the steps that are left free of bad rings: as long as there are none,
    # what is carried costs least. When all is even, the worlds that keep these steps are the best ones.
    while max(more) > 0:
        carry_most(points, arcs, amounts, more)
    return amounts


def carry_most(points, arcs, amounts, more):
    """Carry as much as can be from a point that more enters to one that more leaves, along a way with the least sum."""
    steps = steps_left(arcs, amounts)
    goal = [point for point in range(points) if more[point] < 0][0]
    # Of ways with one sum a shorter one is taken: else many ways with little room may be taken again and again.
    sums, ways = gaps_over((points, tuple([(i, j, most * points + 1) for i, j, most in bounds_of(steps)])), goal)
    _, start = min([(sums[point], point) for point in range(points) if more[point] > 0 and sums[point] is not None])
    row = []
    point = start
    while point != goal:
        row.append(steps[ways[point]])
        point = row[-1][1]
    amount = min([more[start], -more[goal]] + [room for _, _, _, _, _, room in row if room is not None])
    for _, _, _, index, way, _ in row:
        amounts[index] += way * amount
    more[start] -= amount
    more[goal] += amount


def told_by(arcs, amounts):
    """What a balance tells."""
    return -sum([most * amount for (_, _, most, _, _), amount in zip(arcs, amounts)])


def least_of_charges(system, charges):
    """The least total, for a system with a world."""
    return told_by(arcs_of(system, charges), even_amounts(system, charges))


def system_of_best(system, charges):
    """A system whose worlds are the best worlds."""
    arcs = arcs_of(system, charges)
    return (system[0], bounds_of(steps_left(arcs, even_amounts(system, charges))))


def least_total(system, charges):
    """The least total of charges over all worlds."""
    check_asked(system, charges)
    need_world(system)
    return least_of_charges(system, charges)


def best_world(system, charges):
    """A world with the least total."""
    check_asked(system, charges)
    need_world(system)
    return world_of(system_of_best(system, charges))


def best_system(system, charges):
    """A system with as many points whose worlds are exactly the best ones."""
    check_asked(system, charges)
    need_world(system)
    return system_of_best(system, charges)


def is_best(system, charges, world):
    """Whether a world is best."""
    check_asked(system, charges)
    check_world(system, world)
    return total_in(charges, world) == least_of_charges(system, charges)


def better_move(system, charges, world):
    """A move to a world with a lesser total, None if the world is best."""
    check_asked(system, charges)
    check_world(system, world)
    # Totals are convex, and along a way to a best world they come down; so one of its moves betters the world itself.
    # Each of these moves, if made first, leads to a world, too: all differences stay between those of both ends.
    for move in moves_towards(world, world_of(system_of_best(system, charges))):
        moved, way = move
        there = tuple([moment + way if point in moved else moment for point, moment in enumerate(world)])
        if total_in(charges, there) < total_in(charges, world):
            return move
    return None


def moves_towards(world, other_world):
    """The moves, each once, of a row of fewest moves from a world to another one."""
    rises = [other - moment for moment, other in zip(world, other_world)]
    found = []
    for rise in sorted(set(rises)):
        if rise > 0:
            found.append(([point for point, more in enumerate(rises) if more >= rise], 1))
        if rise < 0:
            found.append(([point for point, more in enumerate(rises) if more <= rise], -1))
    return found


def balance(system, charges):
    """A balance that tells the least total."""
    check_asked(system, charges)
    need_world(system)
    amounts = even_amounts(system, charges)
    return (amounts[:len(charges)], amounts[len(charges):])


def balance_tells(system, charges, value):
    """What a balance tells, None if value is no balance."""
    check_asked(system, charges)
    if not is_tuple_of(2, value):
        return None
    pulls, weights = value
    arcs = arcs_of(system, charges)
    if not are_carried(charge_arcs(charges), pulls) or not are_carried(arcs[len(charges):], weights):
        return None
    amounts = pulls + weights
    if any([more != 0 for more in entering(system[0], arcs, amounts)]):
        return None
    return told_by(arcs, amounts)


def are_carried(arcs, value):
    """Whether value is a list of what may be carried along the arcs."""
    if not isinstance(value, list) or len(value) != len(arcs):
        return False
    return all([is_carried(arc, amount) for arc, amount in zip(arcs, value)])


def is_carried(arc, value):
    """Whether value is what may be carried along an arc."""
    _, _, _, low, high = arc
    return is_number_from(low, value) and (high is None or value <= high)


def least_with(system, charges, first, second, delay):
    """The least total over the worlds in which the delay of two spots is this, None if there are none."""
    check_asked(system, charges)
    check_spot(system, first)
    check_spot(system, second)
    check_integer(delay)
    need_world(system)
    claims = [(second, first, delay), (first, second, -delay)]
    held = claimed_system(system, claims)
    if any([never_holds(claim) for claim in claims]) or not has_world(held):
        return None
    return least_of_charges(held, charges)


def is_tariff(system, value):
    """Whether value is a tariff of a spot of the system."""
    if not is_tuple_of(3, value):
        return False
    spot, base, steps = value
    if not is_spot(system, spot) or not is_integer(base) or not isinstance(steps, tuple):
        return False
    if not all([is_tuple_of(2, step) and is_integer(step[0]) and is_integer(step[1]) for step in steps]):
        return False
    if not all([begin < later for (begin, _), (later, _) in zip(steps, steps[1:])]):
        return False
    amounts = [base] + [amount for _, amount in steps]
    return all([amount < more for amount, more in zip(amounts, amounts[1:])])


def check_rising(system, held, tariffs):
    """Raise an error if the system, the held spot or the tariffs are wrong."""
    check_system(system)
    check_spot(system, held)
    if not isinstance(tariffs, list) or not all([is_tariff(system, tariff) for tariff in tariffs]):
        raise InvalidTariffs("these are no list of tariffs")


def comes_to(tariff, delay):
    """What a tariff comes to at a delay."""
    _, base, steps = tariff
    return ([base] + [amount for begin, amount in steps if begin <= delay])[-1]


def least_of_tariff(tariff, least):
    """What a tariff comes to at the least delay, None if there is none."""
    return tariff[1] if least is None else comes_to(tariff, least)


def greatest_of_tariff(tariff, greatest):
    """What a tariff comes to at the greatest delay, None if there is none."""
    _, base, steps = tariff
    if greatest is None:
        return ([base] + [amount for _, amount in steps])[-1]
    return comes_to(tariff, greatest)


def rising_range(system, held, tariffs):
    """The tuple of the least and the greatest sum of tariffs over all worlds."""
    check_rising(system, held, tariffs)
    need_world(system)
    ends = [gap_ends(system, held, spot) for spot, _, _ in tariffs]
    least = sum([least_of_tariff(tariff, low) for tariff, (low, _) in zip(tariffs, ends)])
    return (least, sum([greatest_of_tariff(tariff, high) for tariff, (_, high) in zip(tariffs, ends)]))


def rising_worlds(system, held, tariffs):
    """The tuple of a world with the least and one with the greatest sum of tariffs."""
    check_rising(system, held, tariffs)
    need_world(system)
    low, high = [], []
    # Seen from the held spot, what is least and what is greatest for each spot comes in one world for all. A tariff
    # without steps comes to one thing.
    for spot, _, steps in [tariff for tariff in tariffs if tariff[2]]:
        least, greatest = gap_ends(system, held, spot)
        low.append((spot, held, steps[0][0] - 1 if least is None else least))
        high.append((held, spot, -steps[-1][0] if greatest is None else -greatest))
    return (world_of(claimed_system(system, low)), world_of(claimed_system(system, high)))
