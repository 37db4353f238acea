"""What the tests share: sample systems, judges by the words of DOC.md, and worlds tried one by one."""

import itertools
import random

# The example of DOC.md: x1 from 2 to 5, x2 from 0 to 3 behind x1.
SYSTEM = (3, ((1, 0, 5), (0, 1, -2), (2, 1, 3), (1, 2, 0)))
# The same points without worlds; [4, 2, 0] is its bad ring.
BROKEN = (3, SYSTEM[1] + ((0, 2, -9),))
BIG = 10 ** 30 - 1


def is_int(value):
    return type(value) is int


def is_index(count, value):
    return is_int(value) and 0 <= value < count


def is_bound(points, value):
    return (type(value) is tuple and len(value) == 3 and is_index(points, value[0])
            and is_index(points, value[1]) and value[0] != value[1] and is_int(value[2]))


def is_system(value):
    return (type(value) is tuple and len(value) == 2 and is_int(value[0]) and value[0] >= 1
            and type(value[1]) is tuple and all(is_bound(value[0], bound) for bound in value[1]))


def is_spot(system, value):
    return type(value) is tuple and len(value) == 2 and is_index(system[0], value[0]) and is_int(value[1])


def is_claim(system, value):
    return (type(value) is tuple and len(value) == 3 and is_spot(system, value[0])
            and is_spot(system, value[1]) and is_int(value[2]))


def are_moments(system, value):
    return (type(value) is tuple and len(value) == system[0]
            and all(is_int(moment) for moment in value) and value[0] == 0)


def keeps(system, moments):
    return all(moments[i] - moments[j] <= most for i, j, most in system[1])


def is_world(system, value):
    return are_moments(system, value) and keeps(system, value)


def is_chain(system, i, j, value):
    bounds = system[1]
    if type(value) is not list or not all(is_index(len(bounds), index) for index in value):
        return False
    if not value:
        return i == j
    meets = all(bounds[a][1] == bounds[b][0] for a, b in zip(value, value[1:]))
    return meets and bounds[value[0]][0] == i and bounds[value[-1]][1] == j


def is_simple(system, chain):
    """Whether no point is the first point of two of its bounds."""
    firsts = [system[1][index][0] for index in chain]
    return len(firsts) == len(set(firsts))


def sum_of(system, chain):
    return sum(system[1][index][2] for index in chain)


def is_ring(system, value):
    if type(value) is not list or not value or not is_index(len(system[1]), value[0]):
        return False
    first = system[1][value[0]][0]
    return is_chain(system, first, first, value) and is_simple(system, value)


def is_bad_ring(system, value):
    return is_ring(system, value) and sum_of(system, value) < 0


def line_of(moments):
    """The line of spots with these moments."""
    rows = {}
    for index, moment in enumerate(moments):
        rows.setdefault(moment, []).append(index)
    return [rows[moment] for moment in sorted(rows)]


def moments_of(world, spots):
    return [world[point] + shift for point, shift in spots]


def box_worlds(system, reach):
    """All worlds of the system with all moments from -reach to reach, ascending."""
    span = range(-reach, reach + 1)
    tried = itertools.product([0], *[span] * (system[0] - 1))
    return [world for world in tried if keeps(system, world)]


def boxed(system, reach):
    """The system with each point from -reach to reach."""
    bounds = [bound for i in range(1, system[0]) for bound in ((i, 0, reach), (0, i, reach))]
    return (system[0], system[1] + tuple(bounds))


def some_systems(seed, many, points, bounds, reach):
    """Systems of few points, with and without worlds; the same ones in each run."""
    rolls = random.Random(seed)
    found = []
    for _ in range(many):
        count = rolls.randint(1, points)
        told = []
        for _ in range(rolls.randint(0, bounds) if count > 1 else 0):
            i, j = rolls.sample(range(count), 2)
            told.append((i, j, rolls.randint(-reach // 2, reach)))
        found.append((count, tuple(told)))
    return found


def with_worlds(*told):
    """Those of some systems that have worlds."""
    gaps = [(system, table_by_passing(system)) for system in some_systems(*told)]
    return [system for system, rows in gaps if all(row[i] == 0 for i, row in enumerate(rows))]


def large_system(seed, tied=False):
    """A tuple (system, world): 24 points, 120 bounds, chains between all points, and moments to 30 digits."""
    rolls = random.Random(seed)
    world = (0,) + tuple(rolls.randint(-BIG // 4, BIG // 4) for _ in range(23))
    pairs = [(i, (i + 1) % 24) for i in range(24)] + [tuple(rolls.sample(range(24), 2)) for _ in range(96)]
    bounds = []
    for i, j in pairs:
        bounds.append((i, j, world[i] - world[j] + (0 if tied else rolls.randint(0, BIG // 4))))
    return (24, tuple(bounds)), world


def large_broken(seed):
    """A system of 24 points and 120 bounds without worlds: its one bad ring has 24 bounds and the sum -1."""
    (points, bounds), world = large_system(seed)
    ring = [(i, (i + 1) % 24, world[i] - world[(i + 1) % 24]) for i in range(24)]
    i, j, most = ring[7]
    ring[7] = (i, j, most - 1)
    return (points, bounds[:96] + tuple(ring))


def table_by_passing(system):
    """The greatest gaps, point after point being allowed on the way; without worlds one on the diagonal is below 0."""
    points, bounds = system
    gaps = [[0 if i == j else None for j in range(points)] for i in range(points)]
    for i, j, most in bounds:
        gaps[i][j] = most if gaps[i][j] is None else min(gaps[i][j], most)
    for k, i, j in itertools.product(range(points), repeat=3):
        if gaps[i][k] is not None and gaps[k][j] is not None:
            passed = gaps[i][k] + gaps[k][j]
            gaps[i][j] = passed if gaps[i][j] is None else min(gaps[i][j], passed)
    return gaps


def mutants(value):
    """Values with one place made another: other kinds, a part too many, a part missing, at any depth."""
    yield from (None, True, False, "x", "", -1, 0, 7, 10 ** 39, (), [], (0,), [0], ((),), [[]])
    if type(value) is int:
        yield from (-value - 1, value + 1, str(value), (value,), [value])
    if type(value) in (list, tuple):
        kind = type(value)
        parts = list(value)
        yield tuple(parts) if kind is list else parts
        for at in range(len(parts) + 1):
            for more in [0, None, True] + parts[:1]:
                yield kind(parts[:at] + [more] + parts[at:])
        for at, part in enumerate(parts):
            yield kind(parts[:at] + parts[at + 1:])
            for mutant in mutants(part):
                yield kind(parts[:at] + [mutant] + parts[at + 1:])
        yield from wide_mutants(kind, parts)


def wide_mutants(kind, parts):
    """Values with two neighbours swapped, or a part put twice."""
    for at in range(len(parts) - 1):
        yield kind(parts[:at] + [parts[at + 1], parts[at]] + parts[at + 2:])
        yield kind(parts[:at] + [parts[at], parts[at]] + parts[at + 2:])


def lists_in(value):
    """All lists in a value, it itself too."""
    if type(value) is list:
        yield value
    if type(value) in (list, tuple):
        for part in value:
            yield from lists_in(part)
