"""Prices: the stages of spots among marks, what stagings cost, and sums between two spots.

The functions of the interface check what they are passed; the others here are passed checked values.
"""

from dueanywhere.bounds import has_world
from dueanywhere.bounds import need_world
from dueanywhere.bounds import world_of
from dueanywhere.cuts import all_sets
from dueanywhere.errors import InvalidCosts
from dueanywhere.errors import InvalidMarks
from dueanywhere.errors import InvalidSpan
from dueanywhere.errors import InvalidStaging
from dueanywhere.kinds import are_indexes
from dueanywhere.kinds import are_integers
from dueanywhere.kinds import check_spot
from dueanywhere.kinds import check_spots
from dueanywhere.kinds import check_system
from dueanywhere.kinds import check_uses
from dueanywhere.kinds import check_weights
from dueanywhere.kinds import is_spot
from dueanywhere.orders import claimed_system
from dueanywhere.orders import gap_ends
from dueanywhere.orders import gaps_of_spots
from dueanywhere.orders import moments_of
from dueanywhere.orders import never_holds
from dueanywhere.sums import cut_of_cells
from dueanywhere.sums import end_sets
from dueanywhere.sums import sum_ends
from dueanywhere.worlds import check_world

MOST_MARKS = 8
MOST_GAPS = 400


def check_marks(system, marks):
    """Raise InvalidMarks if these are no list of one to eight spots of one point with ascending shifts."""
    if not isinstance(marks, list) or not 1 <= len(marks) <= MOST_MARKS:
        raise InvalidMarks("these are no list of one to eight marks")
    if not all([is_spot(system, mark) for mark in marks]):
        raise InvalidMarks("a mark is no spot of the system")
    for (i, shift), (j, later) in zip(marks, marks[1:]):
        if i != j or shift >= later:
            raise InvalidMarks("the marks are not of one point, or do not ascend")


def check_asked(system, spots, marks):
    """Raise an error if the system, the spots or the marks are wrong."""
    check_system(system)
    check_spots(system, spots)
    check_marks(system, marks)


def check_costs(spots, marks, costs):
    """Raise InvalidCosts if these are no cost table for the spots and the marks."""
    if not isinstance(costs, list) or len(costs) != len(spots):
        raise InvalidCosts("the costs are no list with a row for each spot")
    for row in costs:
        check_prices(marks, row)


def check_prices(marks, prices):
    """Raise InvalidCosts if these are no list of an integer for each stage."""
    if not are_integers(prices) or len(prices) != len(marks) + 1:
        raise InvalidCosts("these are not an integer for each stage")


def shifts_of(marks):
    """The shifts of the marks."""
    return [shift for _, shift in marks]


def home_of(marks):
    """The spot from which the shifts of the marks count."""
    return (marks[0][0], 0)


def stage_by(marks, delay):
    """The stage of a spot that is so many minutes behind the home of the marks."""
    return len([shift for shift in shifts_of(marks) if shift <= delay])


def stage_range(system, spot, marks):
    """The tuple of the least and the greatest stage of a spot."""
    check_system(system)
    check_spot(system, spot)
    check_marks(system, marks)
    need_world(system)
    least, greatest = gap_ends(system, home_of(marks), spot)
    low = 0 if least is None else stage_by(marks, least)
    return (low, len(marks) if greatest is None else stage_by(marks, greatest))


def staging_in(system, world, spots, marks):
    """The staging of the spots in a world."""
    check_system(system)
    check_world(system, world)
    check_spots(system, spots)
    check_marks(system, marks)
    home = moments_of(world, [home_of(marks)])[0]
    return [stage_by(marks, moment - home) for moment in moments_of(world, spots)]


def is_row(spots, marks, value):
    """Whether value is a list of stages, one for each spot."""
    return are_indexes(len(marks) + 1, value) and len(value) == len(spots)


def staging_claims(spots, marks, row):
    """The claims that each spot has its stage."""
    found = []
    for spot, stage in zip(spots, row):
        if stage > 0:
            found.append((marks[stage - 1], spot, 0))
        if stage < len(marks):
            found.append((spot, marks[stage], -1))
    return found


def is_staging(system, spots, marks, value):
    """Whether value is a staging of the spots."""
    check_asked(system, spots, marks)
    return is_row(spots, marks, value) and has_staging(system, staging_claims(spots, marks, value))


def has_staging(system, claims):
    """Whether a world keeps these claims of a staging."""
    return not any([never_holds(claim) for claim in claims]) and has_world(claimed_system(system, claims))


def staging_world(system, spots, marks, row):
    """A world with this staging of the spots."""
    check_asked(system, spots, marks)
    if not is_row(spots, marks, row):
        raise InvalidStaging("these are not a stage for each spot")
    need_world(system)
    claims = staging_claims(spots, marks, row)
    if not has_staging(system, claims):
        raise InvalidStaging("this is no staging")
    return world_of(claimed_system(system, claims))


def stagings(system, spots, marks):
    """The ascending list of all stagings of the spots."""
    check_asked(system, spots, marks)
    need_world(system)
    cells = cells_of(spots, marks)
    pairs, inside, outside = items_of_stages(system, spots, marks)
    found = all_sets(len(cells), pairs, inside, outside)
    return sorted([staging_by(spots, marks, items) for items in found])


def cells_of(spots, marks):
    """The cells, ascending."""
    return [(a, c) for a in range(len(spots)) for c in range(len(marks))]


def items_of_stages(system, spots, marks):
    """The tuple (pairs, inside, outside), for cuts, of the cells."""
    gaps = gaps_of_spots(system, spots + [home_of(marks)])
    return cut_of_cells(gaps, len(spots), shifts_of(marks), cells_of(spots, marks))


def staging_by(spots, marks, items):
    """The staging in which these cells, told by their numbers, are on."""
    stages = [len(marks)] * len(spots)
    for item in items:
        stages[item // len(marks)] -= 1
    return stages


def stage_parts(system, spots, marks, costs):
    """The tuple (weights, pairs, inside, outside, rest), for cuts, of the cells."""
    check_asked(system, spots, marks)
    check_costs(spots, marks, costs)
    need_world(system)
    return parts_of_stages(system, spots, marks, costs)


def parts_of_stages(system, spots, marks, costs):
    """What stage_parts returns."""
    pairs, inside, outside = items_of_stages(system, spots, marks)
    weights = [costs[a][c] - costs[a][c + 1] for a, c in cells_of(spots, marks)]
    return (weights, pairs, inside, outside, sum([row[-1] for row in costs]))


def totals(system, spots, marks, costs):
    """The tuple of the least and the greatest total of a staging."""
    check_asked(system, spots, marks)
    check_costs(spots, marks, costs)
    need_world(system)
    return total_ends(system, spots, marks, costs)


def total_ends(system, spots, marks, costs):
    """What totals returns."""
    weights, pairs, inside, outside, rest = parts_of_stages(system, spots, marks, costs)
    least, greatest = sum_ends(weights, pairs, inside, outside)
    return (least + rest, greatest + rest)


def price_totals(system, uses, marks, prices):
    """The tuple of the least and the greatest total of uses at the prices of their stages."""
    check_system(system)
    check_uses(system, uses)
    check_marks(system, marks)
    check_prices(marks, prices)
    need_world(system)
    costs = [[amount * price for price in prices] for _, amount in uses]
    return total_ends(system, [spot for spot, _ in uses], marks, costs)


def end_stagings(system, spots, marks, costs):
    """The tuple of a staging with the least and one with the greatest total."""
    check_asked(system, spots, marks)
    check_costs(spots, marks, costs)
    need_world(system)
    weights, pairs, inside, outside, _ = parts_of_stages(system, spots, marks, costs)
    low, high = end_sets(weights, pairs, inside, outside)
    return (staging_by(spots, marks, low), staging_by(spots, marks, high))


def cheapest_staging(system, spots, marks, costs):
    """A staging with the least total."""
    return end_stagings(system, spots, marks, costs)[0]


def dearest_staging(system, spots, marks, costs):
    """A staging with the greatest total."""
    return end_stagings(system, spots, marks, costs)[1]


def between(system, spots, weights, first, last):
    """The tuple of the least and the greatest sum of the spots that are not earlier than first, but than last."""
    check_system(system)
    check_spots(system, spots)
    check_weights(len(spots), weights)
    check_spot(system, first)
    check_spot(system, last)
    need_world(system)
    least, greatest = gap_ends(system, first, last)
    if least is None or least < 0:
        raise InvalidSpan("first can be later than last")
    if greatest is None or greatest - least >= MOST_GAPS:
        raise InvalidSpan("the gap from first to last has too many values")
    gaps = gaps_of_spots(system, spots + [first, last])
    ends = [sums_at(gaps, weights, span) for span in range(least, greatest + 1)]
    return (min([low for low, _ in ends]), max([high for _, high in ends]))


def sums_at(gaps, weights, span):
    """The ends of the sum between first and last, the gap from first to last being this span.

    The gaps are those of the spots and of first and last, behind them.
    """
    # First and last are two marks of one point, as long as they are held so far apart.
    cells = [(a, c) for a in range(len(weights)) for c in range(2)]
    told = [part for weight in weights for part in (-weight, weight)]
    pairs, inside, outside = cut_of_cells(held_gaps(gaps, span), len(weights), [0, span], cells)
    return sum_ends(told, pairs, inside, outside)


def held_gaps(gaps, span):
    """The gaps of spots if the last one is held this span behind the one ahead of it."""
    first, last = len(gaps) - 2, len(gaps) - 1
    found = []
    for row in gaps:
        ways = [row, by_way(row[last], span, gaps[first]), by_way(row[first], -span, gaps[last])]
        found.append([least_of([way[b] for way in ways]) for b in range(len(gaps))])
    return found


def by_way(start, step, row):
    """What a row of gaps becomes behind a gap and a step, None where there is no way."""
    return [None if start is None or gap is None else start + step + gap for gap in row]


def least_of(gaps):
    """The least one of some gaps, None if there is none."""
    return min([gap for gap in gaps if gap is not None], default=None)
