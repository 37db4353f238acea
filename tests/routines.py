"""All functions of the interface with right arguments for each, and what each argument must be."""

from dueanywhere import bounds
from dueanywhere import charges
from dueanywhere import clocks
from dueanywhere import closings
from dueanywhere import cuts
from dueanywhere import days
from dueanywhere import errors
from dueanywhere import looks
from dueanywhere import money
from dueanywhere import orders
from dueanywhere import pasts
from dueanywhere import prices
from dueanywhere import worlds
from tests import helper

ONE, OTHER = (1, 10), (2, 8)
WORLD = (0, 2, 2)
RIGHT = {
    "system": helper.SYSTEM, "other_system": (3, helper.SYSTEM[1][:3]), "bounds": [(0, 2, 4), (2, 0, 9)],
    "i": 2, "j": 0, "index": 1, "amount": 3, "number": 8, "moments": (0, 2, 9), "world": WORLD,
    "other_world": (0, 4, 5), "difference": 4, "wish": (0, 9, 9), "one": ONE, "other": OTHER, "claim": (OTHER, ONE, 1),
    "claims": [(OTHER, ONE, 1), (ONE, (1, 3), 7)], "spots": [ONE, OTHER, (2, 9)], "line": [[0], [1], [2]],
    "amounts": [7, -3, 2], "until": ONE, "count": 3, "value": [0],
    "places": helper.BOOK[0], "book": helper.BOOK, "entry": (1, 1, 142560), "tie": ("look", 0, 3, None, 70),
    "entry_number": 2, "other_number": 0, "place": 1, "day": 99, "first_day": -3, "last_day": 40, "year": 2024,
    "month": 2, "term": ("open", 3), "holidays": (-7, 2, 102),
    "weights": [5, -3, 4, 9], "pairs": [(2, 1), (3, 0), (3, 1), (2, 1)], "inside": [0], "outside": [3],
    "carry": [(2, 1, 3), (3, 1, 1)], "rates": [0, 1, 0, 2], "goal": 10, "at": (1, 12), "row": [0, 1],
    "bills": [((0, 0), 4), ((1, 3), 5)], "payments": [((0, 6), 3), ((1, 4), 2), ((2, 2), 6)], "payment": 1,
    "held": (1, 2), "dues": [(0, 9), (2, 1)], "transfers": [((1, 0), (2, 0), 7), ((0, 0), (1, 0), 5)],
    "spot": (2, 1), "marks": [(1, 3), (1, 5)], "costs": [[1, 2, 3], [0, -4, 0], [5, 5, 5]], "prices": [4, -1, 2],
    "uses": [((1, 4), 3), ((2, 0), -2), ((0, 7), 0)], "first": (1, 0), "last": (2, 4), "second": (2, 4),
    "charges": [((0, 0), (1, 0), 4, 2, 3), ((1, 1), (2, 0), 0, 1, 0)], "delay": 5,
    "tariffs": [((1, 0), 0, ((1, 5), (9, 7))), ((2, 0), -1, ())], "home": 0, "posting": 1, "closing": 1,
    "news": [("post", (1, 0), 5), ("close", 4), ("post", (2, -1), -3), ("bound", 2, 0, 7), ("close", 6)],
    "question": [2, -1, 3], "looks": [((0, 0), (1, 0), 2, 4), ((1, 1), (2, 1), 1, 9), ((2, 0), (0, 0), -8, 8)],
    "answer": 4, "couples": [((0, 0), (1, 3)), ((1, 0), (1, 2))], "most": 6,
    "offers": [((0, 0), (1, 0), 2), ((1, 0), (2, 0), 5), ((2, 0), (2, 1), 0)], "many": 4,
}


def two_points(args):
    return {args["i"], args["j"]}


def are_spots(args, value):
    return type(value) is list and all(helper.is_spot(args["system"], spot) for spot in value)


def are_spots_of_two(args, value):
    return are_spots(args, value) and {spot[0] for spot in value} <= two_points(args)


def is_spot_of_two(args, value):
    return helper.is_spot(args["system"], value) and value[0] in two_points(args)


def are_bounds(args, value):
    return type(value) in (list, tuple) and all(helper.is_bound(args["system"][0], bound) for bound in value)


def are_claims(args, value):
    return type(value) is list and all(helper.is_claim(args["system"], claim) for claim in value)


def are_amounts(args, value):
    return type(value) is list and len(value) == len(args["spots"]) and all(helper.is_int(part) for part in value)


def is_line(count, value):
    """Whether value is a line: that of the places at which the indexes stand."""
    if type(value) is not list or not all(type(row) is list for row in value):
        return False
    told = [part for row in value for part in row]
    if not all(helper.is_int(part) for part in told) or sorted(told) != list(range(count)):
        return False
    return value == helper.line_of([[at for at, row in enumerate(value) if k in row][0] for k in range(count)])


def number_of_items(args):
    return args["count"] if "count" in args else len(args["weights"])


def are_integers(args, value):
    return type(value) is list and all(helper.is_int(part) for part in value)


def are_rates(args, value):
    return are_integers(args, value) and len(value) == number_of_items(args) and all(part >= 0 for part in value)


def are_pairs(args, value):
    return type(value) in (list, tuple) and all(helper.is_pair(number_of_items(args), pair) for pair in value)


def places_of(args):
    return args["places"] if "places" in args else args["book"][0]


def are_spots_with(system, value, least):
    """Whether value is a list of tuples of a spot and an integer from least on."""
    return (type(value) is list and all(type(part) is tuple and len(part) == 2 for part in value)
            and all(helper.is_spot(system, spot) and helper.is_int(amount) and (least is None or amount >= least)
                    for spot, amount in value))


def are_money(args, value):
    return are_spots_with(args["system"], value, 1)


def are_transfers(args, value):
    """Whether value is a list of transfers that are told rightly, whenever they arrive."""
    system = args["system"]
    return (type(value) is list and all(type(part) is tuple and len(part) == 3 for part in value)
            and all(helper.is_spot(system, leaving) and helper.is_spot(system, arriving) and helper.is_int(amount)
                    and amount >= 1 for leaving, arriving, amount in value))


def are_marks(args, value):
    if type(value) is not list or not 1 <= len(value) <= 8:
        return False
    if not all(helper.is_spot(args["system"], spot) for spot in value):
        return False
    shifts = [shift for _, shift in value]
    return len({point for point, _ in value}) == 1 and shifts == sorted(set(shifts))


def are_prices(args, value):
    return are_integers(args, value) and len(value) == len(args["marks"]) + 1


def are_costs(args, value):
    return (type(value) is list and len(value) == len(args["spots"])
            and all(are_prices(args, row) for row in value))


def is_stage_row(args, value):
    return (type(value) is list and len(value) == len(args["spots"])
            and all(helper.is_index(len(args["marks"]) + 1, part) for part in value))


def is_charge(system, value):
    return (type(value) is tuple and len(value) == 5 and helper.is_spot(system, value[0])
            and helper.is_spot(system, value[1]) and all(helper.is_int(part) for part in value[2:])
            and min(value[3:]) >= 0)


def is_tariff(system, value):
    if type(value) is not tuple or len(value) != 3 or not helper.is_spot(system, value[0]):
        return False
    _, base, steps = value
    if not helper.is_int(base) or type(steps) is not tuple:
        return False
    if not all(type(step) is tuple and len(step) == 2 and all(helper.is_int(part) for part in step) for step in steps):
        return False
    begins, amounts = [step[0] for step in steps], [base] + [step[1] for step in steps]
    return begins == sorted(set(begins)) and amounts == sorted(set(amounts))


def is_told(system, value):
    """Whether value is one of the news."""
    if type(value) is not tuple or len(value) < 2:
        return False
    if value[0] == "post":
        return len(value) == 3 and helper.is_spot(system, value[1]) and helper.is_int(value[2])
    if value[0] == "bound":
        return helper.is_bound(system[0], value[1:])
    return value[0] == "close" and len(value) == 2 and helper.is_int(value[1])


def are_news(args, value):
    if type(value) is not list or not all(is_told(args["system"], part) for part in value):
        return False
    shifts = told_of(value, "close")
    return shifts == sorted(set(shifts))


def told_of(news, kind):
    return [part[1] for part in news if part[0] == kind]


def is_question(args, value):
    return are_integers(args, value) and len(value) == len(told_of(args["news"], "close")) + 1


def is_many_behind(args, value):
    """Whether value is a number of news among which the closing is."""
    ends = [at + 1 for at, part in enumerate(args["news"]) if part[0] == "close"]
    return value is None or helper.is_int(value) and ends[args["closing"]] <= value <= len(args["news"])


def is_look(system, value):
    return (type(value) is tuple and len(value) == 4 and helper.is_spot(system, value[0])
            and helper.is_spot(system, value[1]) and value[0][0] != value[1][0]
            and helper.is_int(value[2]) and helper.is_int(value[3]) and value[2] <= value[3])


def is_couple(system, value):
    return type(value) is tuple and len(value) == 2 and all(helper.is_spot(system, spot) for spot in value)


def is_offer(system, value):
    return (type(value) is tuple and len(value) == 3 and is_couple(system, value[:2]) and helper.is_int(value[2])
            and value[2] >= 0)


def known_by(args):
    """The system whose worlds a call is about."""
    system = args["system"]
    if "news" in args:
        news = args["news"][:args.get("many")]
        return (system[0], system[1] + tuple(part[1:] for part in news if part[0] == "bound"))
    if "looks" in args:
        told = []
        for (p, a), (q, b), least, most in args["looks"]:
            told += [(q, p, most - b + a), (p, q, b - a - least)]
        return (system[0], system[1] + tuple(told))
    return system


def list_of(judge):
    """A judge of lists of what a judge of a system takes."""
    return lambda args, value: type(value) is list and all(judge(args["system"], part) for part in value)


JUDGES = {
    "money": (are_money, errors.InvalidMoney),
    "uses": (lambda args, value: are_spots_with(args["system"], value, None), errors.InvalidMoney),
    "bill": (lambda args, value: helper.is_index(len(args["bills"]), value), errors.InvalidIndex),
    "payment": (lambda args, value: helper.is_index(len(args["payments"]), value), errors.InvalidIndex),
    "dues": (lambda args, value: are_spots(args, value) and len(value) == len(args["bills"]), errors.InvalidSpots),
    "transfers": (are_transfers, errors.InvalidTransfers),
    "marks": (are_marks, errors.InvalidMarks),
    "stages": (is_stage_row, errors.InvalidStaging),
    "costs": (are_costs, errors.InvalidCosts),
    "prices": (are_prices, errors.InvalidCosts),
    "charges": (list_of(is_charge), errors.InvalidCharges),
    "tariffs": (list_of(is_tariff), errors.InvalidTariffs),
    "news": (are_news, errors.InvalidNews),
    "question": (is_question, errors.InvalidQuestion),
    "posting": (lambda args, value: helper.is_index(len(told_of(args["news"], "post")), value), errors.InvalidIndex),
    "closing": (lambda args, value: helper.is_index(len(told_of(args["news"], "close")), value), errors.InvalidIndex),
    "many": (lambda args, value: value is None or helper.is_index(len(args["news"]) + 1, value), errors.InvalidNumber),
    "many behind": (is_many_behind, errors.InvalidNumber),
    "known world": (lambda args, value: helper.is_world(known_by(args), value), errors.InvalidWorld),
    "looks": (list_of(is_look), errors.InvalidLooks),
    "couples": (list_of(is_couple), errors.InvalidCouples),
    "offers": (list_of(is_offer), errors.InvalidOffers),
    "unlike spot": (lambda args, value: helper.is_spot(args["system"], value) and value[0] != args["first"][0],
                    errors.InvalidSpots),
    "system": (lambda args, value: helper.is_system(value), errors.InvalidSystem),
    "bounds": (are_bounds, errors.InvalidBounds),
    "point": (lambda args, value: helper.is_index(args["system"][0], value), errors.InvalidPoint),
    "second point": (lambda args, value: helper.is_index(args["system"][0], value) and value != args["i"],
                     errors.InvalidPoint),
    "index": (lambda args, value: helper.is_index(len(args["system"][1]), value), errors.InvalidIndex),
    "integer": (lambda args, value: helper.is_int(value), errors.InvalidNumber),
    "natural": (lambda args, value: helper.is_int(value) and value >= 0, errors.InvalidNumber),
    "moments": (lambda args, value: helper.are_moments(args["system"], value), errors.InvalidWorld),
    "world": (lambda args, value: helper.is_world(args["system"], value), errors.InvalidWorld),
    "spot": (lambda args, value: helper.is_spot(args["system"], value), errors.InvalidSpots),
    "spots": (are_spots, errors.InvalidSpots),
    "spot of two": (is_spot_of_two, errors.InvalidSpots),
    "spots of two": (are_spots_of_two, errors.InvalidSpots),
    "claim": (lambda args, value: helper.is_claim(args["system"], value), errors.InvalidClaims),
    "claims": (are_claims, errors.InvalidClaims),
    "amounts": (are_amounts, errors.InvalidWeights),
    "line": (lambda args, value: is_line(len(args["spots"]), value), errors.InvalidLine),
    "any": (lambda args, value: True, None),
    "places": (lambda args, value: helper.is_places(value), errors.InvalidPlaces),
    "book": (lambda args, value: helper.is_book(value), errors.InvalidBook),
    "entry": (lambda args, value: helper.is_entry(places_of(args), value), errors.InvalidEntry),
    "tie": (lambda args, value: helper.is_tie(args["book"], value), errors.InvalidTie),
    "number of entry": (lambda args, value: helper.is_index(len(args["book"][1]), value), errors.InvalidIndex),
    "place": (lambda args, value: helper.is_index(len(args["book"][0]), value), errors.InvalidPlace),
    "world of book": (lambda args, value: helper.are_moments([len(helper.points_of(args["book"]))], value)
                      and helper.keeps_book(args["book"], value), errors.InvalidWorld),
    "day": (lambda args, value: helper.is_int(value), errors.InvalidDay),
    "year": (lambda args, value: helper.is_date(value, args["month"], args["day"]), errors.InvalidDay),
    "month": (lambda args, value: helper.is_date(args["year"], value, args["day"]), errors.InvalidDay),
    "day of month": (lambda args, value: helper.is_date(args["year"], args["month"], value), errors.InvalidDay),
    "term": (lambda args, value: helper.is_term(value), errors.InvalidTerm),
    "holidays": (lambda args, value: helper.are_holidays(value), errors.InvalidHolidays),
    "weights": (are_integers, errors.InvalidWeights),
    "rates": (are_rates, errors.InvalidWeights),
    "pairs": (are_pairs, errors.InvalidPairs),
    "items": (lambda args, value: helper.are_items(number_of_items(args), value), errors.InvalidItems),
    "carry": (lambda args, value: helper.is_carry(number_of_items(args), args["pairs"], value), errors.InvalidItems),
    "row": (lambda args, value: helper.are_ascending(len(args["spots"]), value), errors.InvalidPast),
}

NEVER, RAISES, RAISES_OF_BOOK, RAISES_NO_SET = "never", "system", "book", "set"
# What is handed in so that the last error comes: for a set, something that is inside brings what is outside.
WITHOUT = {"system": {"system": helper.BROKEN}, "book": {"book": helper.BROKEN_BOOK}, "set": {"inside": [2, 3]}}


class Routine:
    """A function, its right arguments in their order, what each must be, and what it raises behind all of them."""

    def __init__(self, function, behind, kinds, by_name=(), **others):
        self.function = function
        self.name = function.__name__
        self.behind = behind
        self.kinds = kinds
        self.by_name = by_name
        self.args = {name: {**RIGHT, **others}[name] for name in kinds}

    def call(self, **changed):
        told = {**self.args, **changed}
        named = {name: told.pop(name) for name in self.by_name}
        return self.function(*told.values(), **named)

    def is_right(self, name, value, args):
        return JUDGES[self.kinds[name]][0](args, value)

    def error(self, name):
        return JUDGES[self.kinds[name]][1]

    def wrong_values(self, name):
        for value in helper.mutants(self.args[name]):
            if not self.is_right(name, value, self.args):
                yield value


S = {"system": "system"}
I_J = {"i": "point", "j": "point"}
TWO = {"i": "point", "j": "second point", "spots": "spots of two"}
BOTH_SYSTEMS = {"system": "system", "other_system": "system"}
BOTH_WORLDS = {**S, "world": "world", "other_world": "world"}
SHOWN = {"number": "any", "value": "any"}
BOOK = {"book": "book"}
ENTRY = {**BOOK, "entry_number": "number of entry"}
CUT = {"pairs": "pairs", "inside": "items", "outside": "items"}
COUNTED = {"count": "natural", **CUT}
WEIGHTED = {"weights": "weights", **CUT}
PAST = {**S, "spots": "spots", "at": "spot"}
DUE = {"term": "term", "holidays": "holidays"}

BILLS = {**S, "bills": "money", "payments": "money"}
PAID_IN = {**S, "world": "world", "bills": "money", "payments": "money"}
STAGES = {**S, "spots": "spots", "marks": "marks"}
COSTS = {**STAGES, "costs": "costs"}
CHARGES = {**S, "charges": "charges"}
CHARGES_IN = {**CHARGES, "world": "world"}
RISING = {**S, "held": "spot", "tariffs": "tariffs"}
NEWS = {**S, "home": "point", "news": "news"}
POSTING = {**NEWS, "posting": "posting"}
CLOSING = {**NEWS, "closing": "closing"}
QUESTION = {**NEWS, "question": "question"}
LOOKS = {**S, "looks": "looks"}
QUARREL = {"one": "spot", "other": "spot"}
BOTH_SPOTS = {"first": "spot", "second": "unlike spot"}
# The tree shows that one of two looks must be distrusted; the bounds of the looks are 4 to 7.
ODD_LOOKS = [((0, 0), (1, 0), 2, 4), ((0, 0), (1, 0), 5, 9)]
TREE = ([4, 7], [(0, None), (1, None)])

ROUTINES = [
    Routine(bounds.is_system, NEVER, {"value": "any"}),
    Routine(bounds.plus, NEVER, {**S, "bounds": "bounds"}),
    Routine(bounds.without, NEVER, {**S, "index": "index"}),
    Routine(bounds.loosened, NEVER, {**S, "amount": "integer"}),
    Routine(bounds.bad_ring, NEVER, S),
    Routine(bounds.is_bad_ring, NEVER, {**S, "value": "any"}),
    Routine(bounds.greatest_gap, RAISES, {**S, **I_J}),
    Routine(bounds.chain_for, RAISES, {**S, **I_J}),
    Routine(bounds.shows_most, NEVER, {**S, **I_J, **SHOWN}, value=[2, 0]),
    Routine(bounds.deciding, RAISES, {**S, **I_J}),
    Routine(bounds.table, RAISES, S),
    Routine(bounds.groups, RAISES, S),
    Routine(bounds.idle, NEVER, S, system=(3, helper.SYSTEM[1] * 2)),
    Routine(bounds.needed, NEVER, S, system=(3, helper.SYSTEM[1] * 2)),
    Routine(bounds.slack, NEVER, S, system=helper.BROKEN),
    Routine(bounds.slack_ring, NEVER, S, system=helper.BROKEN),
    Routine(bounds.shows_slack, NEVER, {**S, **SHOWN}, system=helper.BROKEN, number=1, value=[4, 2, 0]),
    Routine(bounds.are_alike, NEVER, BOTH_SYSTEMS),
    Routine(bounds.parting, NEVER, BOTH_SYSTEMS),
    Routine(worlds.is_world, NEVER, {**S, "value": "any"}, value=WORLD),
    Routine(worlds.first_broken, NEVER, {**S, "moments": "moments"}),
    Routine(worlds.some_world, RAISES, S),
    Routine(worlds.lowest, RAISES, S),
    Routine(worlds.highest, RAISES, S),
    Routine(worlds.world_with, RAISES, {**S, **I_J, "difference": "integer"}),
    Routine(worlds.lesser, NEVER, BOTH_WORLDS),
    Routine(worlds.greater, NEVER, BOTH_WORLDS),
    Routine(worlds.moves_between, NEVER, BOTH_WORLDS),
    Routine(worlds.walk, NEVER, BOTH_WORLDS),
    Routine(worlds.count_worlds, RAISES, S),
    Routine(worlds.worlds, RAISES, S),
    Routine(worlds.near, NEVER, {**S, "wish": "moments", "amount": "natural"}),
    Routine(worlds.nearest, RAISES, {**S, "wish": "moments"}),
    Routine(worlds.shows_far, NEVER, {**S, "wish": "moments", **SHOWN}),
    Routine(orders.gap, RAISES, {**S, "one": "spot", "other": "spot"}),
    Routine(orders.is_sure, RAISES, {**S, "claim": "claim"}),
    Routine(orders.is_possible, RAISES, {**S, "claim": "claim"}),
    Routine(orders.claimed, NEVER, {**S, "claims": "claims"}),
    Routine(orders.joint, RAISES, {**S, "claims": "claims"}),
    Routine(orders.shows_apart, NEVER, {**S, "claims": "claims", "value": "any"}, value=("ring", [0])),
    Routine(orders.fewest_bounds, RAISES, {**S, "claim": "claim"}),
    Routine(orders.first_chain, RAISES, {**S, "claim": "claim"}),
    Routine(orders.line_in, NEVER, {**S, "spots": "spots", "world": "world"}),
    Routine(orders.is_line, NEVER, {"count": "natural", "value": "any"}, value=[[0], [1, 2]]),
    Routine(orders.line_world, RAISES, {**S, "spots": "spots", "line": "line"}),
    Routine(orders.lines, RAISES, {**S, "spots": "spots"}),
    Routine(orders.always_before, RAISES, {**S, "spots": "spots"}),
    Routine(orders.line_steps, RAISES, {**S, **TWO}, i=1, j=2),
    Routine(orders.sum_steps, RAISES, {**S, **TWO, "amounts": "amounts", "until": "spot of two"}, i=1, j=2),
    Routine(clocks.is_places, NEVER, {"value": "any"}, value=helper.BOOK[0]),
    Routine(clocks.is_book, NEVER, {"value": "any"}, value=helper.BOOK),
    Routine(clocks.is_entry, NEVER, {"places": "places", "value": "any"}, value=RIGHT["entry"]),
    Routine(clocks.is_tie, NEVER, {**BOOK, "value": "any"}, value=RIGHT["tie"]),
    Routine(clocks.points_of, NEVER, BOOK),
    Routine(clocks.system_of, NEVER, BOOK),
    Routine(clocks.spot_of, NEVER, ENTRY),
    Routine(clocks.mark_of, NEVER, {**BOOK, "place": "place", "day": "day"}),
    Routine(clocks.with_entry, NEVER, {**BOOK, "entry": "entry"}),
    Routine(clocks.with_tie, NEVER, {**BOOK, "tie": "tie"}),
    Routine(clocks.with_tie, NEVER, {**BOOK, "tie": "tie"}, tie=("apart", 1, 0, 1, 1, -4, None)),
    Routine(clocks.book_bar, NEVER, BOOK),
    Routine(clocks.moment, NEVER, {**BOOK, "world": "world of book", "entry_number": "number of entry"},
            world=helper.BOOK_WORLD),
    Routine(clocks.apart, RAISES_OF_BOOK, {**ENTRY, "other_number": "number of entry"}),
    Routine(days.steady_bar, NEVER, BOOK),
    Routine(days.day_range, RAISES_OF_BOOK, {**ENTRY, "place": "place"}),
    Routine(days.day_world, RAISES_OF_BOOK, {**ENTRY, "place": "place", "day": "day"}),
    Routine(days.date, NEVER, {"day": "day"}),
    Routine(days.day_of, NEVER, {"year": "year", "month": "month", "day": "day of month"}, day=29),
    Routine(days.weekday, NEVER, {"day": "day"}),
    Routine(days.is_open, NEVER, {"day": "day", "holidays": "holidays"}),
    Routine(days.open_days, NEVER, {"first_day": "day", "last_day": "day", "holidays": "holidays"}),
    Routine(days.due_day, NEVER, {"day": "day", **DUE}),
    Routine(days.due_mark, NEVER, {**ENTRY, **DUE}),
    Routine(cuts.clash, NEVER, COUNTED, count=4, inside=(0, 2)),
    Routine(cuts.is_clash, NEVER, {**COUNTED, "value": "any"}, count=4, inside=[3], outside=(1, 1), value=[3, 1]),
    Routine(cuts.is_closed, NEVER, {**COUNTED, "value": "any"}, count=4, value=[0, 1, 2]),
    Routine(cuts.narrowest, RAISES_NO_SET, COUNTED, count=4, inside=[2, 0, 2]),
    Routine(cuts.widest, RAISES_NO_SET, COUNTED, count=4),
    Routine(cuts.closed_sets, RAISES_NO_SET, COUNTED, count=4, pairs=tuple(RIGHT["pairs"])),
    Routine(cuts.least_sum, RAISES_NO_SET, WEIGHTED),
    Routine(cuts.greatest_sum, RAISES_NO_SET, WEIGHTED),
    Routine(cuts.least_sets, RAISES_NO_SET, WEIGHTED),
    Routine(cuts.greatest_sets, RAISES_NO_SET, WEIGHTED),
    Routine(cuts.all_sums, RAISES_NO_SET, WEIGHTED),
    Routine(cuts.floor_carry, RAISES_NO_SET, WEIGHTED),
    Routine(cuts.top_carry, RAISES_NO_SET, WEIGHTED),
    Routine(cuts.floor_of, RAISES_NO_SET, {**WEIGHTED, "carry": "carry"}),
    Routine(cuts.top_of, RAISES_NO_SET, {**WEIGHTED, "carry": "carry"}),
    Routine(cuts.shows_least, NEVER, {**WEIGHTED, **SHOWN}, number=2, value=[]),
    Routine(cuts.shows_greatest, NEVER, {**WEIGHTED, **SHOWN}, number=6, value=RIGHT["carry"][:1]),
    Routine(cuts.least_rate, RAISES_NO_SET, {**WEIGHTED, "rates": "rates", "goal": "integer"}),
    Routine(pasts.past_items, RAISES, PAST),
    Routine(pasts.past_in, NEVER, {**S, "world": "world", "spots": "spots", "at": "spot"}),
    Routine(pasts.sure_past, RAISES, PAST),
    Routine(pasts.widest_past, RAISES, PAST),
    Routine(pasts.pasts, RAISES, PAST),
    Routine(pasts.is_past, NEVER, {**PAST, "value": "any"}, value=[0, 1]),
    Routine(pasts.past_bar, RAISES, {**PAST, "row": "row"}),
    Routine(pasts.past_world, RAISES, {**PAST, "row": "row"}),
    Routine(money.paid, RAISES, {**S, "payments": "money", "at": "spot"}),
    Routine(money.arrears, RAISES, {**BILLS, "at": "spot"}),
    Routine(money.arrears_parts, RAISES, {**BILLS, "at": "spot"}),
    Routine(money.cleared, RAISES, {**BILLS, "index": "bill", "at": "spot"}),
    Routine(money.clearing, RAISES, {**BILLS, "index": "bill", "held": "spot"}),
    Routine(money.clearing_in, NEVER, {**PAID_IN, "index": "bill"}),
    Routine(money.late, RAISES, {**BILLS, "dues": "dues"}),
    Routine(money.shares, RAISES, {**BILLS, "payment": "payment", "index": "bill"}),
    Routine(money.shares_in, NEVER, PAID_IN),
    Routine(money.in_flight, RAISES, {**S, "transfers": "transfers", "at": "spot"}),
    Routine(prices.stage_range, RAISES, {**S, "spot": "spot", "marks": "marks"}),
    Routine(prices.staging_in, NEVER, {**S, "world": "world", "spots": "spots", "marks": "marks"}),
    Routine(prices.is_staging, NEVER, {**STAGES, "value": "any"}, value=[2, 2, 2]),
    Routine(prices.staging_world, RAISES, {**STAGES, "row": "stages"}, row=[2, 2, 2]),
    Routine(prices.stagings, RAISES, STAGES),
    Routine(prices.stage_parts, RAISES, COSTS),
    Routine(prices.totals, RAISES, COSTS),
    Routine(prices.price_totals, RAISES, {**S, "uses": "uses", "marks": "marks", "prices": "prices"}),
    Routine(prices.cheapest_staging, RAISES, COSTS),
    Routine(prices.dearest_staging, RAISES, COSTS),
    Routine(prices.between, RAISES, {**S, "spots": "spots", "weights": "amounts", "first": "spot", "last": "spot"},
            weights=[7, -3, 2]),
    Routine(charges.total, NEVER, CHARGES_IN),
    Routine(charges.least_total, RAISES, CHARGES),
    Routine(charges.best_world, RAISES, CHARGES),
    Routine(charges.best_system, RAISES, CHARGES),
    Routine(charges.is_best, NEVER, CHARGES_IN),
    Routine(charges.better_move, NEVER, CHARGES_IN),
    Routine(charges.balance, RAISES, CHARGES),
    Routine(charges.balance_tells, NEVER, {**CHARGES, "value": "any"}, value=([-2, 0], [0, 2, 0, 0])),
    Routine(charges.least_with, RAISES, {**CHARGES, "first": "spot", "second": "spot", "delay": "integer"}),
    Routine(charges.rising_range, RAISES, RISING),
    Routine(charges.rising_worlds, RAISES, RISING),
    Routine(closings.known, NEVER, {**NEWS, "many": "many"}, by_name=("many",)),
    Routine(closings.period_in, NEVER, {**POSTING, "world": "known world"}),
    Routine(closings.own_period_in, NEVER, {**POSTING, "world": "known world"}),
    Routine(closings.periods, RAISES, POSTING),
    Routine(closings.lateness, RAISES, POSTING),
    Routine(closings.booked, NEVER, {**NEWS, "world": "known world"}),
    Routine(closings.answer_range, RAISES, QUESTION),
    Routine(closings.answer_worlds, RAISES, QUESTION),
    Routine(closings.report, RAISES, {**CLOSING, "many": "many behind"}, by_name=("many",), closing=0),
    Routine(closings.report_history, RAISES, CLOSING, closing=0),
    Routine(closings.cells, RAISES, NEWS),
    Routine(closings.cell_parts, RAISES, QUESTION),
    Routine(looks.with_looks, NEVER, LOOKS),
    Routine(looks.agree, RAISES, LOOKS),
    Routine(looks.distrusted, RAISES, LOOKS, looks=ODD_LOOKS),
    Routine(looks.distrust_tree, RAISES, LOOKS, looks=ODD_LOOKS),
    Routine(looks.shows_distrust, NEVER, {**LOOKS, **SHOWN}, looks=ODD_LOOKS, number=1, value=TREE),
    Routine(looks.answers, RAISES, {**S, "first": "spot", "second": "spot"}),
    Routine(looks.with_answer, RAISES, {**S, **BOTH_SPOTS, "answer": "integer"}),
    Routine(looks.open_answers, RAISES, {**S, **BOTH_SPOTS, **QUARREL}),
    Routine(looks.settles, RAISES, {**S, "couples": "couples", **QUARREL}),
    Routine(looks.doubt, RAISES, {**S, "couples": "couples", **QUARREL}),
    Routine(looks.is_doubt, NEVER, {**S, "couples": "couples", **QUARREL, "value": "any"},
            value=((0, 3, 5), ([2], -1))),
    Routine(looks.cheapest, RAISES, {**S, "offers": "offers", **QUARREL}),
    Routine(looks.forced_by, RAISES, {**LOOKS, "first": "spot", "second": "spot", "most": "integer"}),
    Routine(looks.idle_looks, RAISES, LOOKS),
]
