"""Spots and claims: gaps, what is sure or possible, why it is sure, and the lines in which spots come.

The functions of the interface check what they are passed; the others here are passed checked values.
"""

from dueanywhere.bounds import gap_over
from dueanywhere.bounds import gaps_over
from dueanywhere.bounds import has_world
from dueanywhere.bounds import is_bad_ring
from dueanywhere.bounds import need_world
from dueanywhere.bounds import settle
from dueanywhere.bounds import with_bounds
from dueanywhere.bounds import world_of
from dueanywhere.errors import InvalidLine
from dueanywhere.errors import InvalidPoint
from dueanywhere.errors import InvalidSpots
from dueanywhere.kinds import are_ascending_indexes
from dueanywhere.kinds import check_claim
from dueanywhere.kinds import check_claims
from dueanywhere.kinds import check_number_from
from dueanywhere.kinds import check_points
from dueanywhere.kinds import check_spot
from dueanywhere.kinds import check_spots
from dueanywhere.kinds import check_system
from dueanywhere.kinds import check_weights
from dueanywhere.kinds import is_index
from dueanywhere.kinds import is_tuple_of
from dueanywhere.worlds import check_world


def gap(system, one, other):
    """The tuple of the least and the greatest moment of other less that of one, None for an end that there is not."""
    check_system(system)
    check_spot(system, one)
    check_spot(system, other)
    need_world(system)
    return gap_ends(system, one, other)


def gap_ends(system, one, other):
    """What gap returns, for a system with a world."""
    (i, shift), (j, other_shift) = one, other
    fall = gap_over(system, i, j)
    rise = gap_over(system, j, i)
    least = None if fall is None else other_shift - shift - fall
    greatest = None if rise is None else other_shift - shift + rise
    return (least, greatest)


def claim_bound(claim):
    """The tuple (i, j, most) such that the claim is that the moment of i less that of j is at most most."""
    (i, shift), (j, other_shift), most = claim
    return (i, j, most - shift + other_shift)


def is_sure(system, claim):
    """Whether the claim holds in all worlds."""
    check_system(system)
    check_claim(system, claim)
    need_world(system)
    return holds_always(system, claim_bound(claim))


def holds_always(system, bound):
    """Whether all worlds keep a bound, perhaps one of a point and itself."""
    i, j, most = bound
    greatest = gap_over(system, i, j)
    return greatest is not None and greatest <= most


def is_possible(system, claim):
    """Whether the claim holds in some world."""
    check_system(system)
    check_claim(system, claim)
    need_world(system)
    i, j, most = claim_bound(claim)
    fall = gap_over(system, j, i)
    return fall is None or -fall <= most


def claimed(system, claims):
    """The system with the bounds of the claims of unlike points behind its own."""
    check_system(system)
    check_claims(system, claims)
    return claimed_system(system, claims)


def bounds_of_claims(claims):
    """The bounds of the claims of unlike points."""
    told = [claim_bound(claim) for claim in claims]
    return [(i, j, most) for i, j, most in told if i != j]


def claimed_system(system, claims):
    """What claimed returns."""
    return with_bounds(system, bounds_of_claims(claims))


def never_holds(claim):
    """Whether it is a claim of one point that holds in no world."""
    i, j, most = claim_bound(claim)
    return i == j and most < 0


def joint(system, claims):
    """A world that keeps all claims, or the first claim of one point that does not hold, or a bad ring."""
    check_system(system)
    check_claims(system, claims)
    need_world(system)
    for index, claim in enumerate(claims):
        if never_holds(claim):
            return ("never", index)
    kept = claimed_system(system, claims)
    world = world_of(kept)
    if world is None:
        return ("ring", settle(kept)[1])
    return ("world", world)


def shows_apart(system, claims, value):
    """Whether value is right as a tuple ("never", index) or ("ring", ring)."""
    check_system(system)
    check_claims(system, claims)
    if not is_tuple_of(2, value):
        return False
    kind, shown = value
    if kind == "never":
        return is_index(len(claims), shown) and never_holds(claims[shown])
    return kind == "ring" and is_bad_ring(claimed_system(system, claims), shown)


def fewest_bounds(system, claim):
    """The least length of a chain that shows the claim, None if it is not sure."""
    chain = first_chain(system, claim)
    return None if chain is None else len(chain)


def first_chain(system, claim):
    """Of the chains with the fewest bounds that show the claim the first one, None if it is not sure."""
    check_system(system)
    check_claim(system, claim)
    need_world(system)
    bound = claim_bound(claim)
    if not holds_always(system, bound):
        return None
    point, _, left = bound
    chain = []
    for sums in reversed(sums_by_length(system, bound)[:-1]):
        index = first_step(system, sums, point, left)
        chain.append(index)
        _, point, most = system[1][index]
        left -= most
    return chain


def sums_by_length(system, bound):
    """For the lengths from 0 to the least one that shows a sure bound: the least sums of chains of just this length.

    The sums are told for each point, for the chains from it to the second point of the bound, None without one.
    """
    i, j, most = bound
    sums = [None] * system[0]
    sums[j] = 0
    found = [sums]
    while sums[i] is None or sums[i] > most:
        sums = longer_sums(system, sums)
        found.append(sums)
    return found


def longer_sums(system, sums):
    """The least sums of the chains with one bound more."""
    longer = [None] * system[0]
    for i, j, most in system[1]:
        if sums[j] is not None and (longer[i] is None or longer[i] > sums[j] + most):
            longer[i] = sums[j] + most
    return longer


def first_step(system, sums, point, left):
    """The least index of a bound from the point behind which the sums keep what is left."""
    for index, (i, j, most) in enumerate(system[1]):
        if i == point and sums[j] is not None and sums[j] + most <= left:
            return index
    return None


def moments_of(world, spots):
    """The moments of the spots in a world."""
    return [world[point] + shift for point, shift in spots]


def line_of(moments):
    """The line of spots with these moments."""
    rows = []
    for step in sorted(set(moments)):
        rows.append([index for index, moment in enumerate(moments) if moment == step])
    return rows


def line_in(system, spots, world):
    """The line of the spots in a world."""
    check_system(system)
    check_spots(system, spots)
    check_world(system, world)
    return line_of(moments_of(world, spots))


def is_line(count, value):
    """Whether value is a line of count spots."""
    check_number_from(0, count)
    if not isinstance(value, list):
        return False
    if not all([are_ascending_indexes(count, row) and len(row) > 0 for row in value]):
        return False
    indexes = [index for row in value for index in row]
    return len(indexes) == count and len(set(indexes)) == count


def line_bounds(line):
    """The tuples (a, b, most) that hold indexes in a line: the moment of a less that of b is at most most."""
    found = []
    for row in line:
        for a, b in zip(row, row[1:]):
            found.append((a, b, 0))
            found.append((b, a, 0))
    for row, later in zip(line, line[1:]):
        found.append((row[-1], later[0], -1))
    return found


def line_world(system, spots, line):
    """A world with this line of the spots, None if there is none."""
    check_system(system)
    check_spots(system, spots)
    if not is_line(len(spots), line):
        raise InvalidLine("this is no line of so many spots")
    need_world(system)
    claims = [(spots[a], spots[b], most) for a, b, most in line_bounds(line)]
    if any([never_holds(claim) for claim in claims]):
        return None
    return world_of(claimed_system(system, claims))


def raised(most, amount):
    """A greatest gap with an amount more, None if there is none."""
    return None if most is None else most + amount


def gaps_of_spots(system, spots):
    """The list of lists of greatest gaps in a system with a world: entry b of list a is that of spot a over spot b."""
    columns = {}
    for point in sorted(set([point for point, _ in spots])):
        columns[point] = gaps_over(system, point)[0]
    return [[raised(columns[j][i], shift - other_shift) for j, other_shift in spots] for i, shift in spots]


def system_of_spots(system, spots):
    """The system of the greatest gaps of the spots alone, each spot being a point, in a system with a world."""
    found = []
    for a, row in enumerate(gaps_of_spots(system, spots)):
        found.extend([(a, b, most) for b, most in enumerate(row) if a != b and most is not None])
    return (len(spots), tuple(found))


def lines(system, spots):
    """The ascending list of all lines of the spots that come."""
    check_system(system)
    check_spots(system, spots)
    need_world(system)
    alone = system_of_spots(system, spots)
    found = [[]]
    for index in range(len(spots)):
        # A line of the first spots that does not come is part of none that comes.
        longer = [more for line in found for more in lines_with(line, index)]
        found = [line for line in longer if has_world(with_bounds(alone, line_bounds(line)))]
    return sorted(found)


def lines_with(line, index):
    """The lines that come from a line by one more index, behind all others as a number, in lists of their own."""
    found = []
    for at in range(len(line)):
        found.append([row + [index] if at == k else list(row) for k, row in enumerate(line)])
    for at in range(len(line) + 1):
        rows = [list(row) for row in line]
        rows.insert(at, [index])
        found.append(rows)
    return found


def always_before(system, spots):
    """The ascending list of the tuples (a, b) such that spot a is earlier than spot b in all worlds."""
    check_system(system)
    check_spots(system, spots)
    need_world(system)
    return [(a, b) for a, b, most in system_of_spots(system, spots)[1] if most < 0]


def check_two_points(system, i, j):
    """Raise InvalidPoint if both are not two unlike points of the system."""
    check_points(system, i, j)
    if i == j:
        raise InvalidPoint("both points are one")


def check_spots_of(system, i, j, spots):
    """Raise InvalidSpots if these are no list of spots of both points."""
    check_spots(system, spots)
    for point, _ in spots:
        if point != i and point != j:
            raise InvalidSpots("a spot is of neither point")


def line_steps(system, i, j, spots):
    """The pieces of the lines of spots of both points, by the moment of j less that of i."""
    check_system(system)
    check_two_points(system, i, j)
    check_spots_of(system, i, j, spots)
    need_world(system)
    ranges = ranges_between(gap_ends(system, (i, 0), (j, 0)), meetings(i, spots, spots))
    return merged([(low, high, line_of(moments_by(i, spots, some_of(low, high)))) for low, high in ranges])


def sum_steps(system, i, j, spots, amounts, until):
    """The pieces of the sums of the amounts of the spots not later than until, by the moment of j less that of i."""
    check_system(system)
    check_two_points(system, i, j)
    check_spots_of(system, i, j, spots)
    check_weights(len(spots), amounts)
    check_spots_of(system, i, j, [until])
    need_world(system)
    ranges = ranges_between(gap_ends(system, (i, 0), (j, 0)), meetings(i, spots, [until]))
    return merged([(low, high, sum_by(i, spots, amounts, until, some_of(low, high))) for low, high in ranges])


def moments_by(i, spots, difference):
    """The moments of spots of i and of another point that is the difference behind it, i being at 0."""
    return [shift if point == i else shift + difference for point, shift in spots]


def sum_by(i, spots, amounts, until, difference):
    """The sum of the amounts of the spots not later than until, by the difference as in moments_by."""
    end = moments_by(i, [until], difference)[0]
    moments = moments_by(i, spots, difference)
    return sum([amount for amount, moment in zip(amounts, moments) if moment <= end])


def meetings(i, spots, others):
    """The differences at which a spot and one of the others, of unlike points, have one moment."""
    found = []
    for point, shift in spots:
        for other_point, other_shift in others:
            if point != other_point:
                found.append(shift - other_shift if point == i else other_shift - shift)
    return found


def ranges_between(ends, cuts):
    """The ranges, tuples (low, high), into which the cuts part the range with these ends, each cut being one."""
    low, high = ends
    behind = [cut + 1 for cut in cuts]
    starts = [start for start in sorted(set(cuts + behind)) if is_inner(start, low, high)]
    lasts = [start - 1 for start in starts]
    return list(zip([low] + starts, lasts + [high]))


def is_inner(start, low, high):
    """Whether a range from low to high has start in it, but not as its first integer."""
    return (low is None or start > low) and (high is None or start <= high)


def some_of(low, high):
    """An integer from low to high, None being no end."""
    if low is not None:
        return low
    return 0 if high is None else high


def merged(pieces):
    """The pieces with neighbours of one value made one."""
    found = []
    for low, high, told in pieces:
        if found and found[-1][2] == told:
            low = found.pop()[0]
        found.append((low, high, told))
    return found
