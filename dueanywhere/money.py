"""Money: what is paid and owed at a spot, when bills are cleared, shares of payments in bills, and transfers.

The functions of the interface check what they are passed; the others here are passed checked values.
"""

from dueanywhere.bounds import need_world
from dueanywhere.cuts import all_sets
from dueanywhere.cuts import narrowest_set
from dueanywhere.cuts import sum_over
from dueanywhere.cuts import widest_set
from dueanywhere.errors import InvalidSpots
from dueanywhere.errors import InvalidTransfers
from dueanywhere.kinds import MAYBE
from dueanywhere.kinds import NEVER
from dueanywhere.kinds import SURE
from dueanywhere.kinds import check_index
from dueanywhere.kinds import check_money
from dueanywhere.kinds import check_spot
from dueanywhere.kinds import check_spots
from dueanywhere.kinds import check_system
from dueanywhere.kinds import is_number_from
from dueanywhere.kinds import is_spot
from dueanywhere.kinds import is_tuple_of
from dueanywhere.orders import claim_bound
from dueanywhere.orders import gaps_of_spots
from dueanywhere.orders import holds_always
from dueanywhere.orders import moments_of
from dueanywhere.pasts import items_of_past
from dueanywhere.sums import sum_ends
from dueanywhere.worlds import check_world

# What is earlier, and what is later, than all moments; these stand between both as (1, moment).
EARLIEST = (0, 0)
LATEST = (2, 0)


def check_bills(system, bills, payments):
    """Raise InvalidMoney if one of both is wrong."""
    check_money(system, bills)
    check_money(system, payments)


def spots_of(money):
    """The spots of bills or payments."""
    return [spot for spot, _ in money]


def amounts_of(money):
    """The amounts of bills or payments."""
    return [amount for _, amount in money]


def debt_of(bills, index):
    """The debt of a bill: its amount and those of all bills ahead of it in the list."""
    return sum(amounts_of(bills[:index + 1]))


def paid(system, payments, at):
    """The tuple of the least and the greatest sum that is paid at a spot."""
    check_system(system)
    check_money(system, payments)
    check_spot(system, at)
    need_world(system)
    amounts = amounts_of(payments)
    pairs, inside, outside = items_of_past(system, spots_of(payments), at)
    # No amount is below 0, so the narrowest past has the least sum.
    least = sum_over(amounts, narrowest_set(pairs, inside))
    return (least, sum_over(amounts, widest_set(len(amounts), pairs, outside)))


def arrears(system, bills, payments, at):
    """The tuple of the least and the greatest arrears at a spot."""
    check_system(system)
    check_bills(system, bills, payments)
    check_spot(system, at)
    need_world(system)
    return arrears_ends(system, bills, payments, at)


def arrears_ends(system, bills, payments, at):
    """What arrears returns."""
    weights, pairs, inside, outside = parts_of_arrears(system, bills, payments, at)
    return sum_ends(weights, pairs, inside, outside)


def arrears_parts(system, bills, payments, at):
    """The tuple (weights, pairs, inside, outside), for cuts, of the bills and, behind them, the payments."""
    check_system(system)
    check_bills(system, bills, payments)
    check_spot(system, at)
    need_world(system)
    return parts_of_arrears(system, bills, payments, at)


def parts_of_arrears(system, bills, payments, at):
    """What arrears_parts returns."""
    weights = amounts_of(bills) + [-amount for amount in amounts_of(payments)]
    pairs, inside, outside = items_of_past(system, spots_of(bills + payments), at)
    return (weights, pairs, inside, outside)


def cleared(system, bills, payments, index, at):
    """Whether a bill is cleared at a spot: sure, maybe or never."""
    check_system(system)
    check_bills(system, bills, payments)
    check_index(len(bills), index)
    check_spot(system, at)
    need_world(system)
    return cleared_word(system, bills, payments, index, at)


def cleared_word(system, bills, payments, index, at):
    """What cleared returns."""
    debt = debt_of(bills, index)
    amounts = [0] + amounts_of(payments)
    pairs, inside, outside = items_of_past(system, [bills[index][0]] + spots_of(payments), at)
    # What clears the bill in a past clears it in each wider one.
    if is_clearing(amounts, debt, narrowest_set(pairs, inside)):
        return SURE
    return MAYBE if is_clearing(amounts, debt, widest_set(len(amounts), pairs, outside)) else NEVER


def is_clearing(amounts, debt, past):
    """Whether a bill, the item 0, is in a past, and with it payments of this debt or more."""
    return 0 in past and sum_over(amounts, past) >= debt


def clearing(system, bills, payments, index, held):
    """The tuple of the least and the greatest clearing of a bill less the moment of a held spot."""
    check_system(system)
    check_bills(system, bills, payments)
    check_index(len(bills), index)
    check_spot(system, held)
    need_world(system)
    return clearing_ends(system, bills, payments, index, held)


def clearing_ends(system, bills, payments, index, held):
    """What clearing returns: None if there is no clearing."""
    amounts, debt = amounts_of(payments), debt_of(bills, index)
    if sum(amounts) < debt:
        return None
    gaps = gaps_of_spots(system, [held, bills[index][0]] + spots_of(payments))
    low = [EARLIEST if gap is None else (1, -gap) for gap in gaps[0][1:]]
    high = [LATEST if row[0] is None else (1, row[0]) for row in gaps[1:]]
    ends = [clearing_by(moments[0], moments[1:], amounts, debt) for moments in (low, high)]
    least, greatest = [None if end in (EARLIEST, LATEST) else end[1] for end in ends]
    return (least, greatest)


def clearing_by(start, moments, amounts, debt):
    """The least moment from start on such that the payments not later than it make up the debt, None if none do."""
    left = debt
    for moment, amount in sorted(zip(moments, amounts)):
        left -= amount
        if left <= 0:
            return max(start, moment)
    return None


def clearing_in(system, world, bills, payments, index):
    """The clearing of a bill in a world, None if there is none."""
    check_system(system)
    check_world(system, world)
    check_bills(system, bills, payments)
    check_index(len(bills), index)
    moments = moments_of(world, [bills[index][0]] + spots_of(payments))
    return clearing_by(moments[0], moments[1:], amounts_of(payments), debt_of(bills, index))


def late(system, bills, payments, dues):
    """For each bill whether it is late for its due spot: sure, maybe or never."""
    check_system(system)
    check_bills(system, bills, payments)
    check_spots(system, dues)
    if len(dues) != len(bills):
        raise InvalidSpots("these are not as many due spots as bills")
    need_world(system)
    return late_words(system, bills, payments, dues)


def late_words(system, bills, payments, dues):
    """What late returns."""
    return [late_word(system, bills, payments, index, due) for index, due in enumerate(dues)]


def late_word(system, bills, payments, index, due):
    """Whether a bill is late for its due spot, so not cleared at it."""
    word = cleared_word(system, bills, payments, index, due)
    if word == SURE:
        return NEVER
    return SURE if word == NEVER else MAYBE


def share_of(start, amount, bills, index):
    """The share of a payment in a bill, the payments ahead of it adding up to start."""
    debt = debt_of(bills, index)
    low, high = max(start, debt - bills[index][1]), min(start + amount, debt)
    return max(0, high - low)


def shares(system, bills, payments, payment, index):
    """The ascending list of the shares of a payment in a bill that come in some world."""
    check_system(system)
    check_bills(system, bills, payments)
    check_index(len(payments), payment)
    check_index(len(bills), index)
    need_world(system)
    at, amount = payments[payment]
    # Of payments of one moment those with lesser indexes go ahead, as if they were a minute earlier.
    others = [((i, shift - 1), more) for (i, shift), more in payments[:payment]] + payments[payment + 1:]
    pairs, inside, outside = items_of_past(system, spots_of(others), at)
    starts = [sum_over(amounts_of(others), past) for past in all_sets(len(others), pairs, inside, outside)]
    return sorted(set([share_of(start, amount, bills, index) for start in starts]))


def shares_in(system, world, bills, payments):
    """For each payment the list of its shares in the bills in a world."""
    check_system(system)
    check_world(system, world)
    check_bills(system, bills, payments)
    order = sorted([(moment, index) for index, moment in enumerate(moments_of(world, spots_of(payments)))])
    starts = {}
    start = 0
    for _, index in order:
        starts[index] = start
        start += payments[index][1]
    return [shares_from(starts[index], payment[1], bills) for index, payment in enumerate(payments)]


def shares_from(start, amount, bills):
    """The shares of a payment in all bills, the payments ahead of it adding up to start."""
    return [share_of(start, amount, bills, index) for index in range(len(bills))]


def is_transfer(system, value):
    """Whether value is a tuple of two spots and an amount, whenever they come."""
    if not is_tuple_of(3, value):
        return False
    leaving, arriving, amount = value
    return is_spot(system, leaving) and is_spot(system, arriving) and is_number_from(1, amount)


def in_flight(system, transfers, at):
    """The tuple of the least and the greatest sum of the amounts that are in flight at a spot."""
    check_system(system)
    if not isinstance(transfers, list) or not all([is_transfer(system, transfer) for transfer in transfers]):
        raise InvalidTransfers("these are no list of transfers")
    check_spot(system, at)
    need_world(system)
    for leaving, arriving, _ in transfers:
        if not holds_always(system, claim_bound((leaving, arriving, 0))):
            raise InvalidTransfers("an arriving may be earlier than its leaving")
    return flight_ends(system, transfers, at)


def flight_ends(system, transfers, at):
    """What in_flight returns, for transfers that arrive earlier than they leave in no world."""
    spots = [leaving for leaving, _, _ in transfers] + [arriving for _, arriving, _ in transfers]
    amounts = [amount for _, _, amount in transfers]
    # What has arrived has left, so what is in flight is what has left less what has arrived.
    pairs, inside, outside = items_of_past(system, spots, at)
    return sum_ends(amounts + [-amount for amount in amounts], pairs, inside, outside)
