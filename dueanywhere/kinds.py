"""What values must be: the kinds that several modules share, and the errors for values of other kinds."""

from dueanywhere.errors import InvalidBounds
from dueanywhere.errors import InvalidClaims
from dueanywhere.errors import InvalidIndex
from dueanywhere.errors import InvalidItems
from dueanywhere.errors import InvalidMoney
from dueanywhere.errors import InvalidNumber
from dueanywhere.errors import InvalidPairs
from dueanywhere.errors import InvalidPoint
from dueanywhere.errors import InvalidSpots
from dueanywhere.errors import InvalidSystem
from dueanywhere.errors import InvalidWeights
from dueanywhere.errors import InvalidWorld

# In all worlds; in some, but not in all; in none.
SURE = "sure"
MAYBE = "maybe"
NEVER = "never"


def is_integer(value):
    """Whether value is an integer; True and False are none."""
    return isinstance(value, int) and not isinstance(value, bool)


def is_number_from(least, value):
    """Whether value is an integer from least on."""
    return is_integer(value) and value >= least


def is_index(count, value):
    """Whether value is an index of count things."""
    return is_integer(value) and 0 <= value < count


def is_tuple_of(length, value):
    """Whether value is a tuple of so many parts."""
    return isinstance(value, tuple) and len(value) == length


def are_indexes(count, value):
    """Whether value is a list of indexes of count things, in any order, perhaps some twice."""
    return isinstance(value, list) and all([is_index(count, part) for part in value])


def are_ascending_indexes(count, value):
    """Whether value is an ascending list of indexes of count things."""
    return are_indexes(count, value) and all([one < other for one, other in zip(value, value[1:])])


def is_bound(points, value):
    """Whether value is a bound of a system with so many points."""
    if not is_tuple_of(3, value):
        return False
    i, j, most = value
    return is_index(points, i) and is_index(points, j) and i != j and is_integer(most)


def is_whole_system(value):
    """Whether value is a system."""
    if not is_tuple_of(2, value):
        return False
    points, bounds = value
    if not is_number_from(1, points) or not isinstance(bounds, tuple):
        return False
    return all([is_bound(points, bound) for bound in bounds])


def is_spot(system, value):
    """Whether value is a spot of the system."""
    if not is_tuple_of(2, value):
        return False
    point, shift = value
    return is_index(system[0], point) and is_integer(shift)


def is_claim(system, value):
    """Whether value is a claim of spots of the system."""
    if not is_tuple_of(3, value):
        return False
    one, other, most = value
    return is_spot(system, one) and is_spot(system, other) and is_integer(most)


def are_moments(system, value):
    """Whether value is a tuple of integers, one for each point, 0 for the point 0."""
    if not is_tuple_of(system[0], value):
        return False
    return all([is_integer(moment) for moment in value]) and value[0] == 0


def is_pair(count, value):
    """Whether value is a pair of unlike items, count being their number."""
    if not is_tuple_of(2, value):
        return False
    a, b = value
    return is_index(count, a) and is_index(count, b) and a != b


def check_system(system):
    """Raise InvalidSystem if it is no system."""
    if not is_whole_system(system):
        raise InvalidSystem("this is no system")


def check_bounds(system, bounds):
    """Raise InvalidBounds if these are no list or tuple of bounds of the system."""
    if not isinstance(bounds, (list, tuple)) or not all([is_bound(system[0], bound) for bound in bounds]):
        raise InvalidBounds("these are no bounds of the system")


def check_point(system, point):
    """Raise InvalidPoint if it is no point of the system."""
    if not is_index(system[0], point):
        raise InvalidPoint("this is no point of the system")


def check_points(system, i, j):
    """Raise InvalidPoint if one of both is no point of the system."""
    check_point(system, i)
    check_point(system, j)


def check_index(count, index):
    """Raise InvalidIndex if it is no index of count things."""
    if not is_index(count, index):
        raise InvalidIndex("this is no index of what it counts")


def check_integer(number):
    """Raise InvalidNumber if it is no integer."""
    if not is_integer(number):
        raise InvalidNumber("this is no integer")


def check_number_from(least, number):
    """Raise InvalidNumber if it is no integer from least on."""
    if not is_number_from(least, number):
        raise InvalidNumber(f"this is no integer from {least} on")


def check_moments(system, moments):
    """Raise InvalidWorld if these are no moments, whether they keep the bounds or not."""
    if not are_moments(system, moments):
        raise InvalidWorld("these are no moments of the points of the system")


def check_spot(system, spot):
    """Raise InvalidSpots if it is no spot of the system."""
    if not is_spot(system, spot):
        raise InvalidSpots("this is no spot of the system")


def check_spots(system, spots):
    """Raise InvalidSpots if these are no list of spots of the system."""
    if not isinstance(spots, list):
        raise InvalidSpots("the spots are no list")
    for spot in spots:
        check_spot(system, spot)


def check_claim(system, claim):
    """Raise InvalidClaims if it is no claim of spots of the system."""
    if not is_claim(system, claim):
        raise InvalidClaims("this is no claim of spots of the system")


def check_claims(system, claims):
    """Raise InvalidClaims if these are no list of claims of spots of the system."""
    if not isinstance(claims, list):
        raise InvalidClaims("the claims are no list")
    for claim in claims:
        check_claim(system, claim)


def are_spots_with_amounts(system, value):
    """Whether value is a list of tuples of a spot and an integer."""
    if not isinstance(value, list) or not all([is_tuple_of(2, part) for part in value]):
        return False
    return all([is_spot(system, spot) and is_integer(amount) for spot, amount in value])


def check_money(system, money):
    """Raise InvalidMoney if these are no list of bills, or of payments."""
    if not are_spots_with_amounts(system, money) or not all([amount >= 1 for _, amount in money]):
        raise InvalidMoney("these are no list of tuples of a spot and an amount from 1 on")


def check_uses(system, uses):
    """Raise InvalidMoney if these are no list of uses, whose amounts are any integers."""
    if not are_spots_with_amounts(system, uses):
        raise InvalidMoney("these are no list of tuples of a spot and an amount")


def are_integers(value):
    """Whether value is a list of integers."""
    return isinstance(value, list) and all([is_integer(part) for part in value])


def check_integers(weights):
    """Raise InvalidWeights if these are no list of integers."""
    if not are_integers(weights):
        raise InvalidWeights("these are no list of integers")


def check_weights(count, weights):
    """Raise InvalidWeights if these are no list of so many integers."""
    check_integers(weights)
    if len(weights) != count:
        raise InvalidWeights("these are not as many integers as there must be")


def check_rates(count, rates):
    """Raise InvalidWeights if these are no list of so many integers from 0 on."""
    check_weights(count, rates)
    if not all([rate >= 0 for rate in rates]):
        raise InvalidWeights("a rate is below 0")


def check_pairs(count, pairs):
    """Raise InvalidPairs if these are no list or tuple of pairs of items, count being their number."""
    if not isinstance(pairs, (list, tuple)) or not all([is_pair(count, pair) for pair in pairs]):
        raise InvalidPairs("these are no pairs of items")


def check_items(count, items):
    """Raise InvalidItems if these are no list or tuple of items, count being their number."""
    if not isinstance(items, (list, tuple)) or not are_indexes(count, list(items)):
        raise InvalidItems("these are no items")
