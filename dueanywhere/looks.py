"""Looks: which must be distrusted, what an exact look would answer, and which looks settle a quarrel.

The functions of the interface check what they are passed; the others here are passed checked values.
"""

from dueanywhere.bounds import has_world
from dueanywhere.bounds import is_ring
from dueanywhere.bounds import need_world
from dueanywhere.bounds import settle
from dueanywhere.bounds import sum_of
from dueanywhere.bounds import with_bounds
from dueanywhere.errors import InvalidCouples
from dueanywhere.errors import InvalidLooks
from dueanywhere.errors import InvalidNumber
from dueanywhere.errors import InvalidOffers
from dueanywhere.errors import InvalidSpots
from dueanywhere.kinds import check_integer
from dueanywhere.kinds import check_spot
from dueanywhere.kinds import check_system
from dueanywhere.kinds import is_integer
from dueanywhere.kinds import is_number_from
from dueanywhere.kinds import is_spot
from dueanywhere.kinds import is_tuple_of
from dueanywhere.orders import bounds_of_claims
from dueanywhere.orders import claim_bound
from dueanywhere.orders import gap_ends
from dueanywhere.orders import gaps_of_spots
from dueanywhere.orders import holds_always
from dueanywhere.quarrels import is_doubt_left
from dueanywhere.quarrels import some_doubt


def is_look(system, value):
    """Whether value is a look at two spots of unlike points of the system."""
    if not is_tuple_of(4, value):
        return False
    first, second, least, most = value
    if not is_spot(system, first) or not is_spot(system, second) or first[0] == second[0]:
        return False
    return is_integer(least) and is_integer(most) and least <= most


def check_looks(system, looks):
    """Raise an error if the system is wrong, or if these are no list of looks."""
    check_system(system)
    if not isinstance(looks, list) or not all([is_look(system, look) for look in looks]):
        raise InvalidLooks("these are no list of looks")


def check_apart(system, first, second):
    """Raise InvalidSpots if both are not spots of two unlike points."""
    check_spot(system, first)
    check_spot(system, second)
    if first[0] == second[0]:
        raise InvalidSpots("both spots are of one point")


def bounds_of_look(look):
    """The two bounds of a look."""
    first, second, least, most = look
    return bounds_of_claims([(second, first, most), (first, second, -least)])


def looked(system, looks):
    """The system with the bounds of the looks behind its own."""
    return with_bounds(system, [bound for look in looks for bound in bounds_of_look(look)])


def with_looks(system, looks):
    """The system with the bounds of the looks behind its own."""
    check_looks(system, looks)
    return looked(system, looks)


def agree(system, looks):
    """Whether the looks agree."""
    check_looks(system, looks)
    need_world(system)
    return has_world(looked(system, looks))


def ring_beside(system, looks, left):
    """A bad ring of the system with all looks that uses no bound of those that are left out, None if there is none."""
    points, bounds = looked(system, looks)
    barred = bounds_left_out(system, left)
    kept = [index for index in range(len(bounds)) if index not in barred]
    _, ring = settle((points, tuple([bounds[index] for index in kept])))
    return None if ring is None else [kept[index] for index in ring]


def bounds_left_out(system, left):
    """The indexes of the bounds of the looks that are left out."""
    count = len(system[1])
    return [index for look in left for index in (count + 2 * look, count + 2 * look + 1)]


def looks_of_ring(system, ring):
    """The ascending list of the looks of which a ring uses a bound or both."""
    count = len(system[1])
    return sorted(set([(index - count) // 2 for index in ring if index >= count]))


def first_left_out(system, looks, left, many):
    """The first ascending list, left and so many looks behind it, without which the others agree; None without one.

    Without fewer looks left out they do not agree.
    """
    ring = ring_beside(system, looks, left)
    if ring is None or many == 0:
        return left if ring is None else None
    start = left[-1] + 1 if left else 0
    # One look of the ring must be left out, so the first one to come is none behind them all.
    for look in range(start, looks_of_ring(system, ring)[-1] + 1):
        found = first_left_out(system, looks, left + [look], many - 1)
        if found is not None:
            return found
    return None


def fewest_left_out(system, looks):
    """What distrusted returns."""
    many = 0
    found = first_left_out(system, looks, [], many)
    while found is None:
        many += 1
        found = first_left_out(system, looks, [], many)
    return found


def distrusted(system, looks):
    """Of the shortest lists of looks without which the others agree the first one."""
    check_looks(system, looks)
    need_world(system)
    return fewest_left_out(system, looks)


def distrust_tree(system, looks):
    """A tree that shows that so many looks must be left out, None if they agree."""
    check_looks(system, looks)
    need_world(system)
    return tree_for(system, looks, len(fewest_left_out(system, looks)), [])


def tree_for(system, looks, many, left):
    """A tree for a number and looks left out, beside which no fewer looks make the others agree."""
    if many == 0:
        return None
    ring = ring_beside(system, looks, left)
    told = looks_of_ring(system, ring)
    return (ring, [(look, tree_for(system, looks, many - 1, left + [look])) for look in told])


def shows_distrust(system, looks, number, value):
    """Whether value is a tree for number, an integer from 0 on, and no look left out."""
    check_looks(system, looks)
    return is_number_from(0, number) and is_tree(system, looked(system, looks), number, [], value)


def is_tree(system, full, many, left, value):
    """Whether value is a tree for a number and looks left out; full is the system with all looks."""
    if many == 0 or not is_tuple_of(2, value):
        return many == 0 and value is None
    ring, branches = value
    if not is_ring(full, ring) or sum_of(full, ring) >= 0 or not isinstance(branches, list):
        return False
    told = looks_of_ring(system, ring)
    if not told or any([look in left for look in told]) or not are_branches(told, branches):
        return False
    return all([is_tree(system, full, many - 1, left + [look], tree) for look, tree in branches])


def are_branches(told, value):
    """Whether the parts of a list are tuples of a look, in this sequence, and something else."""
    if len(value) != len(told) or not all([is_tuple_of(2, part) for part in value]):
        return False
    return all([is_integer(part[0]) and part[0] == look for part, look in zip(value, told)])


def answers(system, first, second):
    """The tuple of the least and the greatest answer of an exact look, None for an end that there is not."""
    check_system(system)
    check_spot(system, first)
    check_spot(system, second)
    need_world(system)
    return gap_ends(system, first, second)


def with_answer(system, first, second, answer):
    """The system with an exact look and its answer."""
    check_system(system)
    check_apart(system, first, second)
    check_integer(answer)
    need_world(system)
    least, greatest = gap_ends(system, first, second)
    if (least is not None and answer < least) or (greatest is not None and answer > greatest):
        raise InvalidNumber("this is none of the answers")
    return looked(system, [(first, second, answer, answer)])


def open_answers(system, first, second, one, other):
    """The tuple of the least and the greatest answer that does not settle a quarrel, None if all settle it."""
    check_system(system)
    check_apart(system, first, second)
    check_spot(system, one)
    check_spot(system, other)
    need_world(system)
    gaps = gaps_of_spots(system, [first, second, one, other])
    if not reaches(gaps[3][2], 0) or not reaches(gaps[2][3], 1):
        return None
    # With an answer, a spot may be as far behind another one as their gap and each way by the look allow.
    least, greatest = gap_ends(system, first, second)
    lows = [least] + lows_for(gaps, 3, 2, 0) + lows_for(gaps, 2, 3, 1)
    highs = [greatest] + highs_for(gaps, 3, 2, 0) + highs_for(gaps, 2, 3, 1)
    low = max([end for end in lows if end is not None], default=None)
    high = min([end for end in highs if end is not None], default=None)
    return None if low is not None and high is not None and low > high else (low, high)


def reaches(gap, least):
    """Whether a greatest gap is at least this, or there is none."""
    return gap is None or gap >= least


def lows_for(gaps, later, earlier, least):
    """A list of the least answer with which one spot can be so far behind another one by the way along the look.

    The way leads from the later spot to the second one of the look, and from its first one to the earlier spot. Without
    such a way the list is empty.
    """
    ahead, behind = gaps[later][1], gaps[0][earlier]
    return [] if ahead is None or behind is None else [least - ahead - behind]


def highs_for(gaps, later, earlier, least):
    """A list of the greatest answer, as in lows_for, by the way against the look."""
    ahead, behind = gaps[later][0], gaps[1][earlier]
    return [] if ahead is None or behind is None else [ahead + behind - least]


def is_couple(system, value):
    """Whether value is a tuple of two spots of the system."""
    return is_tuple_of(2, value) and is_spot(system, value[0]) and is_spot(system, value[1])


def check_quarrel(system, one, other):
    """Raise InvalidSpots if one of both is no spot."""
    check_spot(system, one)
    check_spot(system, other)


def check_couples(system, couples):
    """Raise an error if the system is wrong, or if these are no list of couples."""
    check_system(system)
    if not isinstance(couples, list) or not all([is_couple(system, couple) for couple in couples]):
        raise InvalidCouples("these are no list of couples")


def settles(system, couples, one, other):
    """Whether the couples settle a quarrel."""
    return doubt(system, couples, one, other) is None


def doubt(system, couples, one, other):
    """A doubt that the couples leave of a quarrel, None if they settle it."""
    check_couples(system, couples)
    check_quarrel(system, one, other)
    need_world(system)
    return some_doubt(system, couples, one, other)


def is_doubt(system, couples, one, other, value):
    """Whether value is a doubt that the couples leave of a quarrel."""
    check_couples(system, couples)
    check_quarrel(system, one, other)
    return is_doubt_left(system, couples, one, other, value)


def is_offer(system, value):
    """Whether value is an offer of an exact look at two spots of the system."""
    return is_tuple_of(3, value) and is_couple(system, value[:2]) and is_number_from(0, value[2])


def cheapest(system, offers, one, other):
    """The tuple (price, indexes) of the cheapest offers that settle a quarrel, None if all together do not."""
    check_system(system)
    if not isinstance(offers, list) or not all([is_offer(system, offer) for offer in offers]):
        raise InvalidOffers("these are no list of offers")
    check_quarrel(system, one, other)
    need_world(system)
    told = sorted([(sum([offers[index][2] for index in row]), row) for row in rows_of(len(offers))])
    for price, row in told:
        if some_doubt(system, [offers[index][:2] for index in row], one, other) is None:
            return (price, row)
    return None


def rows_of(count):
    """All ascending lists of indexes of count things."""
    rows = [[]]
    for index in range(count):
        rows = rows + [row + [index] for row in rows]
    return rows


def check_agreed(system, looks):
    """Raise NoWorld with a bad ring of the system alone, or with the looks, if there is no world."""
    need_world(system)
    need_world(looked(system, looks))


def forced_by(system, looks, first, second, most):
    """The fewest looks that force the delay of two spots to be at most most, None if all of them do not."""
    check_looks(system, looks)
    check_spot(system, first)
    check_spot(system, second)
    check_integer(most)
    check_agreed(system, looks)
    bound = claim_bound((second, first, most))
    if not holds_always(looked(system, looks), bound):
        return None
    for _, row in sorted([(len(row), row) for row in rows_of(len(looks))]):
        if holds_always(looked(system, [looks[index] for index in row]), bound):
            return row
    return None


def idle_looks(system, looks):
    """The ascending list of all looks, each by itself, whose bounds hold in all worlds with all other looks."""
    check_looks(system, looks)
    check_agreed(system, looks)
    return [index for index in range(len(looks)) if is_idle_look(system, looks, index)]


def is_idle_look(system, looks, index):
    """Whether the bounds of a look hold in all worlds with all other looks."""
    others = looked(system, looks[:index] + looks[index + 1:])
    return all([holds_always(others, bound) for bound in bounds_of_look(looks[index])])
