"""Sums over what is ahead of spots: their ends, and the cells that tell which spots are ahead of which marks.

The functions here are passed checked values. A cell is a tuple of the indexes of a spot and of a mark, the marks being
shifts of one point.
"""

from dueanywhere.cuts import greatest_cut
from dueanywhere.cuts import negative
from dueanywhere.cuts import sum_over


def sum_ends(weights, pairs, inside, outside):
    """The tuple of the least and the greatest sum of a closed set, if there is one."""
    low, high = end_sets(weights, pairs, inside, outside)
    return (sum_over(weights, low), sum_over(weights, high))


def end_sets(weights, pairs, inside, outside):
    """The tuple of a closed set with the least sum and one with the greatest sum, if there is one."""
    _, low, _ = greatest_cut(negative(weights), pairs, inside, outside)
    _, high, _ = greatest_cut(weights, pairs, inside, outside)
    return (low, high)


def cut_of_cells(gaps, home, shifts, cells):
    """The tuple (pairs, inside, outside), for cuts, of the cells, numbered by their list.

    The gaps are those of the spots and of the spot from which the shifts of the marks count, which has the index home.
    """
    numbered = list(enumerate(cells))
    pairs = []
    for item, (a, c) in numbered:
        for other, (b, e) in numbered:
            if item != other and is_within(gaps[b][a], shifts[e] - shifts[c]):
                pairs.append((item, other))
    inside = [item for item, (a, c) in numbered if is_within(gaps[a][home], shifts[c] - 1)]
    outside = [item for item, (a, c) in numbered if is_within(gaps[home][a], -shifts[c])]
    return (pairs, inside, outside)


def is_within(gap, most):
    """Whether there is a greatest gap, and it is at most this."""
    return gap is not None and gap <= most
