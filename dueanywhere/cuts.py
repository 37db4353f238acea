"""Closed sets of items of which some bring others: which there are, their least and greatest sums, and carries.

The functions of the interface check what they are passed; the others here are passed checked values. There `pairs` are
told as steps, too: for each item the list of the items that it brings, or that bring it.
"""

from dueanywhere.errors import InvalidItems
from dueanywhere.errors import NoSet
from dueanywhere.errors import TooMany
from dueanywhere.kinds import are_ascending_indexes
from dueanywhere.kinds import are_indexes
from dueanywhere.kinds import check_integer
from dueanywhere.kinds import check_integers
from dueanywhere.kinds import check_items
from dueanywhere.kinds import check_number_from
from dueanywhere.kinds import check_pairs
from dueanywhere.kinds import check_rates
from dueanywhere.kinds import is_integer
from dueanywhere.kinds import is_number_from
from dueanywhere.kinds import is_pair
from dueanywhere.kinds import is_tuple_of

MOST_SETS = 2000


def check_cut(count, pairs, inside, outside):
    """Raise an error if one of the parameters that all cuts have is wrong."""
    check_pairs(count, pairs)
    check_items(count, inside)
    check_items(count, outside)


def check_counted(count, pairs, inside, outside):
    """Raise an error if a parameter of a cut without weights is wrong."""
    check_number_from(0, count)
    check_cut(count, pairs, inside, outside)


def check_weighted(weights, pairs, inside, outside):
    """Raise an error if a parameter of a cut with weights is wrong."""
    check_integers(weights)
    check_cut(len(weights), pairs, inside, outside)


def steps_along(pairs):
    """For each item that brings others the list of these."""
    steps = {}
    for a, b in pairs:
        steps.setdefault(a, []).append(b)
    return steps


def turned(pairs):
    """The pairs turned round."""
    return [(b, a) for a, b in pairs]


def items_ahead(starts, steps):
    """For each item to which steps lead, in the order of their number, the item ahead of it, None for the starts."""
    ahead = {item: None for item in starts}
    row = list(ahead)
    done = 0
    while done < len(row):
        item = row[done]
        for other in steps.get(item, []):
            if other not in ahead:
                ahead[other] = item
                row.append(other)
        done += 1
    return ahead


def way_to(ahead, item):
    """The list of the items from a start to the item."""
    way = [item]
    while ahead[way[-1]] is not None:
        way.append(ahead[way[-1]])
    return way[::-1]


def some_clash(pairs, inside, outside):
    """A clash, None if there is a closed set."""
    ahead = items_ahead(inside, steps_along(pairs))
    for item in outside:
        if item in ahead:
            return way_to(ahead, item)
    return None


def need_set(pairs, inside, outside):
    """Raise NoSet with a clash if there is no closed set."""
    found = some_clash(pairs, inside, outside)
    if found is not None:
        raise NoSet(found)


def narrowest_set(pairs, inside):
    """The narrowest closed set, if there is one."""
    return sorted(items_ahead(inside, steps_along(pairs)))


def widest_set(count, pairs, outside):
    """The widest closed set, if there is one."""
    never = items_ahead(outside, steps_along(turned(pairs)))
    return [item for item in range(count) if item not in never]


def clash(count, pairs, inside, outside):
    """A clash, None if there is a closed set."""
    check_counted(count, pairs, inside, outside)
    return some_clash(pairs, inside, outside)


def is_clash(count, pairs, inside, outside, value):
    """Whether value is a clash."""
    check_counted(count, pairs, inside, outside)
    if not are_indexes(count, value) or not value:
        return False
    if value[0] not in inside or value[-1] not in outside:
        return False
    told = {pair: True for pair in pairs}
    return all([step in told for step in zip(value, value[1:])])


def is_closed(count, pairs, inside, outside, value):
    """Whether value is a closed set."""
    check_counted(count, pairs, inside, outside)
    return are_ascending_indexes(count, value) and is_closed_set(pairs, inside, outside, value)


def is_closed_set(pairs, inside, outside, items):
    """Whether an ascending list of items is a closed set."""
    members = {item: True for item in items}
    if not all([item in members for item in inside]) or any([item in members for item in outside]):
        return False
    return all([b in members for a, b in pairs if a in members])


def narrowest(count, pairs, inside, outside):
    """The closed set that lies in all others."""
    check_counted(count, pairs, inside, outside)
    need_set(pairs, inside, outside)
    return narrowest_set(pairs, inside)


def widest(count, pairs, inside, outside):
    """The closed set that has all others in it."""
    check_counted(count, pairs, inside, outside)
    need_set(pairs, inside, outside)
    return widest_set(count, pairs, outside)


def closed_sets(count, pairs, inside, outside):
    """The ascending list of all closed sets."""
    check_counted(count, pairs, inside, outside)
    need_set(pairs, inside, outside)
    return all_sets(count, pairs, inside, outside)


def all_sets(count, pairs, inside, outside):
    """The ascending list of all closed sets, of which there is one; TooMany if they are too many."""
    forth, back = steps_along(pairs), steps_along(turned(pairs))
    brought = [list(items_ahead([item], forth)) for item in range(count)]
    bringing = [list(items_ahead([item], back)) for item in range(count)]
    found = []
    spans = [(narrowest_set(pairs, inside), widest_set(count, pairs, outside))]
    while spans:
        low, high = spans.pop()
        free = items_beside(high, low)
        if free:
            # With the item and without it there is a closed set; so no more is looked through than is found.
            spans.append((sorted(set(low + brought[free[0]])), high))
            spans.append((low, items_beside(high, bringing[free[0]])))
        else:
            found.append(low)
        if len(found) > MOST_SETS:
            raise TooMany("there are more closed sets than are listed")
    return sorted(found)


def items_beside(items, others):
    """Those items that are none of the others."""
    barred = {item: True for item in others}
    return [item for item in items if item not in barred]


def sum_over(weights, items):
    """The sum of the weights of the items."""
    return sum([weights[item] for item in items])


def negative(weights):
    """The weights with the other sign."""
    return [-weight for weight in weights]


def greatest_cut(weights, pairs, inside, outside):
    """The tuple (carry, narrowest, widest) of a carry whose top is the greatest sum and the sets with this sum."""
    sure = narrowest_set(pairs, inside)
    free = items_beside(widest_set(len(weights), pairs, outside), sure)
    results = {item: weights[item] for item in free}
    told = {(a, b): True for a, b in pairs if a in results and b in results}
    carried = carried_amounts(results, told)
    left = list(told) + turned(carried)
    taken = items_ahead([item for item in free if results[item] > 0], steps_along(left))
    barred = items_ahead([item for item in free if results[item] < 0], steps_along(turned(left)))
    carry = sorted([(a, b, amount) for (a, b), amount in carried.items()])
    return carry, sorted(sure + list(taken)), sorted(sure + items_beside(free, barred))


def carried_amounts(results, told):
    """For each told pair along which something is carried the amount, such that nothing above 0 meets what is below 0.

    The results, the weights of the items at first, become what is left of them.
    """
    carried = {}
    met = True
    while met:
        met = False
        # What was carried along a pair may be taken back, so the pair is a step the other way, too.
        steps = steps_along(list(told) + turned(carried))
        ahead = items_ahead([item for item in results if results[item] > 0], steps)
        for item in ahead:
            if results[item] < 0:
                carry_along(results, told, carried, way_to(ahead, item))
                met = True
    return carried


def carry_along(results, told, carried, way):
    """Carry as much as can be from the first item of a way to its last one."""
    steps = list(zip(way, way[1:]))
    limits = [carried.get((b, a), 0) for a, b in steps if (a, b) not in told]
    amount = min([results[way[0]], -results[way[-1]]] + limits)
    # A way that was found ahead of another one may have used up what this one needs.
    if amount <= 0:
        return
    results[way[0]] -= amount
    results[way[-1]] += amount
    for a, b in steps:
        if (a, b) in told:
            carried[(a, b)] = carried.get((a, b), 0) + amount
        elif carried[(b, a)] > amount:
            carried[(b, a)] -= amount
        else:
            carried.pop((b, a))


def least_sum(weights, pairs, inside, outside):
    """The least sum of a closed set."""
    return sum_over(weights, least_sets(weights, pairs, inside, outside)[0])


def greatest_sum(weights, pairs, inside, outside):
    """The greatest sum of a closed set."""
    return sum_over(weights, greatest_sets(weights, pairs, inside, outside)[0])


def least_sets(weights, pairs, inside, outside):
    """The tuple (narrowest, widest) of the closed sets with the least sum."""
    check_weighted(weights, pairs, inside, outside)
    need_set(pairs, inside, outside)
    _, low, high = greatest_cut(negative(weights), pairs, inside, outside)
    return (low, high)


def greatest_sets(weights, pairs, inside, outside):
    """The tuple (narrowest, widest) of the closed sets with the greatest sum."""
    check_weighted(weights, pairs, inside, outside)
    need_set(pairs, inside, outside)
    _, low, high = greatest_cut(weights, pairs, inside, outside)
    return (low, high)


def all_sums(weights, pairs, inside, outside):
    """The ascending list of the sums of all closed sets."""
    check_weighted(weights, pairs, inside, outside)
    need_set(pairs, inside, outside)
    found = all_sets(len(weights), pairs, inside, outside)
    return sorted(set([sum_over(weights, items) for items in found]))


def floor_carry(weights, pairs, inside, outside):
    """A carry with the least sum as its floor."""
    check_weighted(weights, pairs, inside, outside)
    need_set(pairs, inside, outside)
    return greatest_cut(negative(weights), pairs, inside, outside)[0]


def top_carry(weights, pairs, inside, outside):
    """A carry with the greatest sum as its top."""
    check_weighted(weights, pairs, inside, outside)
    need_set(pairs, inside, outside)
    return greatest_cut(weights, pairs, inside, outside)[0]


def is_carry(count, pairs, value):
    """Whether value is a carry along the pairs."""
    if not isinstance(value, list) or not all([is_tuple_of(3, part) for part in value]):
        return False
    if not all([is_pair(count, (a, b)) and is_number_from(1, amount) for a, b, amount in value]):
        return False
    told = {pair: True for pair in pairs}
    steps = [(a, b) for a, b, _ in value]
    ascending = all([step < later for step, later in zip(steps, steps[1:])])
    return ascending and all([step in told for step in steps])


def check_carry(count, pairs, carry):
    """Raise InvalidItems if it is no carry along the pairs."""
    if not is_carry(count, pairs, carry):
        raise InvalidItems("this is no carry")


def floor_of(weights, pairs, inside, outside, carry):
    """The floor of a carry."""
    check_weighted(weights, pairs, inside, outside)
    check_carry(len(weights), pairs, carry)
    need_set(pairs, inside, outside)
    return floor_by(weights, pairs, inside, outside, carry)


def top_of(weights, pairs, inside, outside, carry):
    """The top of a carry."""
    check_weighted(weights, pairs, inside, outside)
    check_carry(len(weights), pairs, carry)
    need_set(pairs, inside, outside)
    return top_by(weights, pairs, inside, outside, carry)


def floor_by(weights, pairs, inside, outside, carry):
    """What floor_of returns: with the other signs each result has the other sign, and the floor is a top."""
    return -top_by(negative(weights), pairs, inside, outside, carry)


def top_by(weights, pairs, inside, outside, carry):
    """What top_of returns."""
    results = list(weights)
    for a, b, amount in carry:
        results[a] -= amount
        results[b] += amount
    sure = narrowest_set(pairs, inside)
    free = items_beside(widest_set(len(weights), pairs, outside), sure)
    return sum_over(results, sure) + sum([max(0, results[item]) for item in free])


def shows_least(weights, pairs, inside, outside, number, value):
    """Whether value is a carry with a floor of at least number."""
    check_weighted(weights, pairs, inside, outside)
    if not is_judged(len(weights), pairs, inside, outside, number, value):
        return False
    return floor_by(weights, pairs, inside, outside, value) >= number


def shows_greatest(weights, pairs, inside, outside, number, value):
    """Whether value is a carry with a top of at most number."""
    check_weighted(weights, pairs, inside, outside)
    if not is_judged(len(weights), pairs, inside, outside, number, value):
        return False
    return top_by(weights, pairs, inside, outside, value) <= number


def is_judged(count, pairs, inside, outside, number, value):
    """Whether there is a closed set, number is an integer and value a carry."""
    return is_integer(number) and is_carry(count, pairs, value) and some_clash(pairs, inside, outside) is None


def least_rate(weights, pairs, inside, outside, rates, goal):
    """The least integer from 0 on such that with the rates times it the greatest sum is at least the goal."""
    check_weighted(weights, pairs, inside, outside)
    check_rates(len(weights), rates)
    check_integer(goal)
    need_set(pairs, inside, outside)
    items = widest_set(len(weights), pairs, outside)
    if sum_over(rates, items) == 0:
        # No closed set grows, so the least rate is 0 if there is one.
        items = greatest_cut(weights, pairs, inside, outside)[1]
    rate = rate_for(weights, rates, goal, items)
    while rate is not None and rate > 0:
        raised = [weight + (rate - 1) * more for weight, more in zip(weights, rates)]
        items = greatest_cut(raised, pairs, inside, outside)[1]
        if sum_over(raised, items) < goal:
            return rate
        rate = rate_for(weights, rates, goal, items)
    return rate


def rate_for(weights, rates, goal, items):
    """The least rate from 0 on with which the sum of these items is at least the goal, None if there is none."""
    missing = goal - sum_over(weights, items)
    more = sum_over(rates, items)
    if missing <= 0:
        return 0
    return None if more == 0 else -(-missing // more)
