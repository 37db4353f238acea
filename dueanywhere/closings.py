"""Closings: which postings a closing books, what is told when it closes, and what further news make of that.

The functions of the interface check what they are passed; the others here are passed checked values. There the postings
of news are tuples (spot, amount, ahead), ahead being the number of closings that come ahead of it in the news, and the
closings are the shifts of their marks.
"""

from dueanywhere.bounds import need_world
from dueanywhere.bounds import with_bounds
from dueanywhere.bounds import world_of
from dueanywhere.errors import InvalidNews
from dueanywhere.errors import InvalidNumber
from dueanywhere.errors import InvalidQuestion
from dueanywhere.kinds import MAYBE
from dueanywhere.kinds import NEVER
from dueanywhere.kinds import SURE
from dueanywhere.kinds import are_integers
from dueanywhere.kinds import check_index
from dueanywhere.kinds import check_point
from dueanywhere.kinds import check_system
from dueanywhere.kinds import is_bound
from dueanywhere.kinds import is_integer
from dueanywhere.kinds import is_spot
from dueanywhere.kinds import is_tuple_of
from dueanywhere.orders import claimed_system
from dueanywhere.orders import gap_ends
from dueanywhere.orders import gaps_of_spots
from dueanywhere.orders import moments_of
from dueanywhere.sums import cut_of_cells
from dueanywhere.sums import end_sets
from dueanywhere.sums import sum_ends
from dueanywhere.worlds import check_world


def is_post(system, value):
    """Whether value is the news of an amount that is posted at a spot."""
    return is_tuple_of(3, value) and value[0] == "post" and is_spot(system, value[1]) and is_integer(value[2])


def is_told_bound(system, value):
    """Whether value is the news of a bound."""
    return is_tuple_of(4, value) and value[0] == "bound" and is_bound(system[0], value[1:])


def is_close(value):
    """Whether value is the news of a closing."""
    return is_tuple_of(2, value) and value[0] == "close" and is_integer(value[1])


def are_news(system, value):
    """Whether value is a list of news."""
    if not isinstance(value, list):
        return False
    if not all([is_post(system, part) or is_told_bound(system, part) or is_close(part) for part in value]):
        return False
    shifts = closings_of(value)
    return all([shift < later for shift, later in zip(shifts, shifts[1:])])


def check_asked(system, home, news):
    """Raise an error if the system, the home or the news are wrong."""
    check_system(system)
    check_point(system, home)
    if not are_news(system, news):
        raise InvalidNews("these are no list of news")


def check_question(news, question):
    """Raise InvalidQuestion if these are no list of integers, one for each closing and one more."""
    if not are_integers(question) or len(question) != len(closings_of(news)) + 1:
        raise InvalidQuestion("this is no question about the closings of the news")


def check_many(least, news, many):
    """Raise InvalidNumber if many is neither None nor an integer from least to the number of news."""
    if many is not None and not (is_integer(many) and least <= many <= len(news)):
        raise InvalidNumber("there are not so many news, or the closing is not among them")


def closings_of(news):
    """The shifts of the closings."""
    return [part[1] for part in news if part[0] == "close"]


def postings_of(news):
    """For each posting the tuple of its spot, its amount and the number of closings ahead of it in the news."""
    found = []
    ahead = 0
    for part in news:
        if part[0] == "close":
            ahead += 1
        if part[0] == "post":
            found.append((part[1], part[2], ahead))
    return found


def end_of_closing(news, closing):
    """The number of the news up to a closing, it too."""
    ends = [at + 1 for at, part in enumerate(news) if part[0] == "close"]
    return ends[closing]


def known_system(system, news):
    """The system known by all of these news."""
    return with_bounds(system, [part[1:] for part in news if part[0] == "bound"])


def known(system, home, news, *, many=None):
    """The system known by the first many news, by all if many is None."""
    check_asked(system, home, news)
    check_many(0, news, many)
    return known_system(system, news if many is None else news[:many])


def period_by(shifts, ahead, delay):
    """The first closing from ahead on whose mark is behind a delay from the home; the number of closings if none is."""
    for closing, shift in enumerate(shifts):
        if closing >= ahead and delay < shift:
            return closing
    return len(shifts)


def delay_in(system, home, news, posting, world):
    """How far behind the home a posting is in a world; the errors of the parameters."""
    check_asked(system, home, news)
    postings = postings_of(news)
    check_index(len(postings), posting)
    check_world(known_system(system, news), world)
    return moments_of(world, [postings[posting][0]])[0] - world[home]


def period_in(system, home, news, posting, world):
    """The period of a posting in a world."""
    delay = delay_in(system, home, news, posting, world)
    return period_by(closings_of(news), postings_of(news)[posting][2], delay)


def own_period_in(system, home, news, posting, world):
    """The own period of a posting in a world."""
    delay = delay_in(system, home, news, posting, world)
    return period_by(closings_of(news), 0, delay)


def delays_of(system, home, news, posting):
    """The ends of how far behind the home a posting is; the errors of the parameters."""
    check_asked(system, home, news)
    postings = postings_of(news)
    check_index(len(postings), posting)
    told = known_system(system, news)
    need_world(told)
    return gap_ends(told, (home, 0), postings[posting][0])


def periods(system, home, news, posting):
    """The tuple of the first and the last period of a posting."""
    least, greatest = delays_of(system, home, news, posting)
    shifts, ahead = closings_of(news), postings_of(news)[posting][2]
    first = ahead if least is None else period_by(shifts, ahead, least)
    return (first, len(shifts) if greatest is None else period_by(shifts, ahead, greatest))


def lateness(system, home, news, posting):
    """Whether a posting is late: sure, maybe or never."""
    least, greatest = delays_of(system, home, news, posting)
    closed = closings_of(news)[:postings_of(news)[posting][2]]
    # The marks ascend, so a posting that is ahead of one of the closed ones is ahead of the last one.
    if not closed or (least is not None and least >= closed[-1]):
        return NEVER
    return SURE if greatest is not None and greatest < closed[-1] else MAYBE


def booked(system, home, news, world):
    """The list of the booked sums in a world, the open sum last."""
    check_asked(system, home, news)
    check_world(known_system(system, news), world)
    shifts = closings_of(news)
    sums = [0] * (len(shifts) + 1)
    for (point, shift), amount, ahead in postings_of(news):
        sums[period_by(shifts, ahead, world[point] + shift - world[home])] += amount
    return sums


def cells_of(news):
    """The cells, ascending."""
    count = len(closings_of(news))
    return [(a, c) for a, (_, _, ahead) in enumerate(postings_of(news)) for c in range(ahead, count)]


def cells(system, home, news):
    """The ascending list of the cells."""
    check_asked(system, home, news)
    need_world(known_system(system, news))
    return cells_of(news)


def weights_of(news, question, told):
    """The weights of cells by a question."""
    amounts = [amount for _, amount, _ in postings_of(news)]
    return [amounts[a] * (question[c] - question[c + 1]) for a, c in told]


def rest_of(news, question):
    """The sum of the amounts times the last integer of a question."""
    return sum([amount * question[-1] for _, amount, _ in postings_of(news)])


def items_of_cells(system, home, news, told):
    """The tuple (pairs, inside, outside), for cuts, of cells; the system is the known one."""
    spots = [spot for spot, _, _ in postings_of(news)]
    return cut_of_cells(gaps_of_spots(system, spots + [(home, 0)]), len(spots), closings_of(news), told)


def cell_parts(system, home, news, question):
    """The tuple (weights, pairs, inside, outside, rest), for cuts, of the cells."""
    check_asked(system, home, news)
    check_question(news, question)
    told = known_system(system, news)
    need_world(told)
    pairs, inside, outside = items_of_cells(told, home, news, cells_of(news))
    return (weights_of(news, question, cells_of(news)), pairs, inside, outside, rest_of(news, question))


def weighing_cells(news, question):
    """The cells on which the answer of a question hangs."""
    told = cells_of(news)
    return [cell for cell, weight in zip(told, weights_of(news, question, told)) if weight != 0]


def answer_ends(system, home, news, question):
    """What answer_range returns; the system is the known one."""
    # Each closed set of some cells comes in a world, so cells that weigh nothing can be left aside.
    told = weighing_cells(news, question)
    pairs, inside, outside = items_of_cells(system, home, news, told)
    least, greatest = sum_ends(weights_of(news, question, told), pairs, inside, outside)
    return (least + rest_of(news, question), greatest + rest_of(news, question))


def answer_range(system, home, news, question):
    """The tuple of the least and the greatest answer of a question."""
    check_asked(system, home, news)
    check_question(news, question)
    told = known_system(system, news)
    need_world(told)
    return answer_ends(told, home, news, question)


def answer_worlds(system, home, news, question):
    """The tuple of a world with the least and one with the greatest answer of a question."""
    check_asked(system, home, news)
    check_question(news, question)
    told = known_system(system, news)
    need_world(told)
    weighing = weighing_cells(news, question)
    pairs, inside, outside = items_of_cells(told, home, news, weighing)
    low, high = end_sets(weights_of(news, question, weighing), pairs, inside, outside)
    return (world_by(told, home, news, weighing, low), world_by(told, home, news, weighing, high))


def world_by(system, home, news, told, items):
    """A world in which of these cells just those with these numbers are on."""
    spots, shifts = [spot for spot, _, _ in postings_of(news)], closings_of(news)
    claims = []
    for item, (a, c) in enumerate(told):
        mark = (home, shifts[c])
        claims.append((spots[a], mark, -1) if item in items else (mark, spots[a], 0))
    return world_of(claimed_system(system, claims))


def report_ends(system, home, news, closing):
    """The range of the booked sum of a closing by these news; the system is the one that they make known."""
    question = [0] * (len(closings_of(news)) + 1)
    question[closing] = 1
    return answer_ends(system, home, news, question)


def report(system, home, news, closing, *, many=None):
    """The range of the booked sum of a closing as it was known by the first many news."""
    check_asked(system, home, news)
    check_index(len(closings_of(news)), closing)
    check_many(end_of_closing(news, closing), news, many)
    told = news if many is None else news[:many]
    need_world(known_system(system, told))
    return report_ends(known_system(system, told), home, told, closing)


def report_history(system, home, news, closing):
    """The list of the reports of a closing for each number of news from the one that ends with it to all."""
    check_asked(system, home, news)
    check_index(len(closings_of(news)), closing)
    need_world(known_system(system, news))
    found = []
    for many in range(end_of_closing(news, closing), len(news) + 1):
        # Of the news behind a closing bounds alone change what it books.
        if not found or news[many - 1][0] == "bound":
            told = news[:many]
            found.append(report_ends(known_system(system, told), home, told, closing))
        else:
            found.append(found[-1])
    return found
