"""All functions of the interface with right arguments for each, and what each argument must be."""

from dueanywhere import bounds
from dueanywhere import errors
from dueanywhere import orders
from dueanywhere import worlds
from tests import helper

ONE, OTHER = (1, 10), (2, 8)
WORLD = (0, 2, 2)
RIGHT = {
    "system": helper.SYSTEM, "other_system": (3, helper.SYSTEM[1][:3]), "bounds": [(0, 2, 4), (2, 0, 9)],
    "i": 2, "j": 0, "index": 1, "amount": 3, "number": 8, "moments": (0, 2, 9), "world": WORLD,
    "other_world": (0, 4, 5), "difference": 4, "wish": (0, 9, 9), "one": ONE, "other": OTHER, "claim": (OTHER, ONE, 1),
    "claims": [(OTHER, ONE, 1), (ONE, (1, 3), 7)], "spots": [ONE, OTHER, (2, 9)], "line": [[0], [1], [2]],
    "amounts": [7, -3, 2], "until": ONE, "count": 3, "value": [0],
}


def two_points(args):
    return {args["i"], args["j"]}


def are_spots(args, value):
    return type(value) is list and all(helper.is_spot(args["system"], spot) for spot in value)


def are_spots_of_two(args, value):
    return are_spots(args, value) and {spot[0] for spot in value} <= two_points(args)


def is_spot_of_two(args, value):
    return helper.is_spot(args["system"], value) and value[0] in two_points(args)


def are_bounds(args, value):
    return type(value) in (list, tuple) and all(helper.is_bound(args["system"][0], bound) for bound in value)


def are_claims(args, value):
    return type(value) is list and all(helper.is_claim(args["system"], claim) for claim in value)


def are_amounts(args, value):
    return type(value) is list and len(value) == len(args["spots"]) and all(helper.is_int(part) for part in value)


def is_line(count, value):
    """Whether value is a line: that of the places at which the indexes stand."""
    if type(value) is not list or not all(type(row) is list for row in value):
        return False
    told = [part for row in value for part in row]
    if not all(helper.is_int(part) for part in told) or sorted(told) != list(range(count)):
        return False
    return value == helper.line_of([[at for at, row in enumerate(value) if k in row][0] for k in range(count)])


JUDGES = {
    "system": (lambda args, value: helper.is_system(value), errors.InvalidSystem),
    "bounds": (are_bounds, errors.InvalidBounds),
    "point": (lambda args, value: helper.is_index(args["system"][0], value), errors.InvalidPoint),
    "second point": (lambda args, value: helper.is_index(args["system"][0], value) and value != args["i"],
                     errors.InvalidPoint),
    "index": (lambda args, value: helper.is_index(len(args["system"][1]), value), errors.InvalidIndex),
    "integer": (lambda args, value: helper.is_int(value), errors.InvalidNumber),
    "natural": (lambda args, value: helper.is_int(value) and value >= 0, errors.InvalidNumber),
    "moments": (lambda args, value: helper.are_moments(args["system"], value), errors.InvalidWorld),
    "world": (lambda args, value: helper.is_world(args["system"], value), errors.InvalidWorld),
    "spot": (lambda args, value: helper.is_spot(args["system"], value), errors.InvalidSpots),
    "spots": (are_spots, errors.InvalidSpots),
    "spot of two": (is_spot_of_two, errors.InvalidSpots),
    "spots of two": (are_spots_of_two, errors.InvalidSpots),
    "claim": (lambda args, value: helper.is_claim(args["system"], value), errors.InvalidClaims),
    "claims": (are_claims, errors.InvalidClaims),
    "amounts": (are_amounts, errors.InvalidWeights),
    "line": (lambda args, value: is_line(len(args["spots"]), value), errors.InvalidLine),
    "any": (lambda args, value: True, None),
}

NEVER, RAISES = False, True


class Routine:
    """A function, its right arguments in their order, what each must be, and whether it raises NoWorld."""

    def __init__(self, function, need_world, kinds, **others):
        self.function = function
        self.name = function.__name__
        self.need_world = need_world
        self.kinds = kinds
        self.args = {name: {**RIGHT, **others}[name] for name in kinds}

    def call(self, **changed):
        return self.function(*{**self.args, **changed}.values())

    def is_right(self, name, value, args):
        return JUDGES[self.kinds[name]][0](args, value)

    def error(self, name):
        return JUDGES[self.kinds[name]][1]

    def wrong_values(self, name):
        for value in helper.mutants(self.args[name]):
            if not self.is_right(name, value, self.args):
                yield value


S = {"system": "system"}
I_J = {"i": "point", "j": "point"}
TWO = {"i": "point", "j": "second point", "spots": "spots of two"}
BOTH_SYSTEMS = {"system": "system", "other_system": "system"}
BOTH_WORLDS = {**S, "world": "world", "other_world": "world"}
SHOWN = {"number": "any", "value": "any"}

ROUTINES = [
    Routine(bounds.is_system, NEVER, {"value": "any"}),
    Routine(bounds.plus, NEVER, {**S, "bounds": "bounds"}),
    Routine(bounds.without, NEVER, {**S, "index": "index"}),
    Routine(bounds.loosened, NEVER, {**S, "amount": "integer"}),
    Routine(bounds.bad_ring, NEVER, S),
    Routine(bounds.is_bad_ring, NEVER, {**S, "value": "any"}),
    Routine(bounds.greatest_gap, RAISES, {**S, **I_J}),
    Routine(bounds.chain_for, RAISES, {**S, **I_J}),
    Routine(bounds.shows_most, NEVER, {**S, **I_J, **SHOWN}, value=[2, 0]),
    Routine(bounds.deciding, RAISES, {**S, **I_J}),
    Routine(bounds.table, RAISES, S),
    Routine(bounds.groups, RAISES, S),
    Routine(bounds.idle, NEVER, S, system=(3, helper.SYSTEM[1] * 2)),
    Routine(bounds.needed, NEVER, S, system=(3, helper.SYSTEM[1] * 2)),
    Routine(bounds.slack, NEVER, S, system=helper.BROKEN),
    Routine(bounds.slack_ring, NEVER, S, system=helper.BROKEN),
    Routine(bounds.shows_slack, NEVER, {**S, **SHOWN}, system=helper.BROKEN, number=1, value=[4, 2, 0]),
    Routine(bounds.are_alike, NEVER, BOTH_SYSTEMS),
    Routine(bounds.parting, NEVER, BOTH_SYSTEMS),
    Routine(worlds.is_world, NEVER, {**S, "value": "any"}, value=WORLD),
    Routine(worlds.first_broken, NEVER, {**S, "moments": "moments"}),
    Routine(worlds.some_world, RAISES, S),
    Routine(worlds.lowest, RAISES, S),
    Routine(worlds.highest, RAISES, S),
    Routine(worlds.world_with, RAISES, {**S, **I_J, "difference": "integer"}),
    Routine(worlds.lesser, NEVER, BOTH_WORLDS),
    Routine(worlds.greater, NEVER, BOTH_WORLDS),
    Routine(worlds.moves_between, NEVER, BOTH_WORLDS),
    Routine(worlds.walk, NEVER, BOTH_WORLDS),
    Routine(worlds.count_worlds, RAISES, S),
    Routine(worlds.worlds, RAISES, S),
    Routine(worlds.near, NEVER, {**S, "wish": "moments", "amount": "natural"}),
    Routine(worlds.nearest, RAISES, {**S, "wish": "moments"}),
    Routine(worlds.shows_far, NEVER, {**S, "wish": "moments", **SHOWN}),
    Routine(orders.gap, RAISES, {**S, "one": "spot", "other": "spot"}),
    Routine(orders.is_sure, RAISES, {**S, "claim": "claim"}),
    Routine(orders.is_possible, RAISES, {**S, "claim": "claim"}),
    Routine(orders.claimed, NEVER, {**S, "claims": "claims"}),
    Routine(orders.joint, RAISES, {**S, "claims": "claims"}),
    Routine(orders.shows_apart, NEVER, {**S, "claims": "claims", "value": "any"}, value=("ring", [0])),
    Routine(orders.fewest_bounds, RAISES, {**S, "claim": "claim"}),
    Routine(orders.first_chain, RAISES, {**S, "claim": "claim"}),
    Routine(orders.line_in, NEVER, {**S, "spots": "spots", "world": "world"}),
    Routine(orders.is_line, NEVER, {"count": "natural", "value": "any"}, value=[[0], [1, 2]]),
    Routine(orders.line_world, RAISES, {**S, "spots": "spots", "line": "line"}),
    Routine(orders.lines, RAISES, {**S, "spots": "spots"}),
    Routine(orders.always_before, RAISES, {**S, "spots": "spots"}),
    Routine(orders.line_steps, RAISES, {**S, **TWO}, i=1, j=2),
    Routine(orders.sum_steps, RAISES, {**S, **TWO, "amounts": "amounts", "until": "spot of two"}, i=1, j=2),
]
