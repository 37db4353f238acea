"""What the tests share: sample systems, judges by the words of DOC.md, and worlds tried one by one."""

import datetime
import functools
import itertools
import random

# The example of DOC.md: x1 from 2 to 5, x2 from 0 to 3 behind x1.
SYSTEM = (3, ((1, 0, 5), (0, 1, -2), (2, 1, 3), (1, 2, 0)))
# The same points without worlds; [4, 2, 0] is its bad ring.
BROKEN = (3, SYSTEM[1] + ((0, 2, -9),))
BIG = 10 ** 30 - 1
# The second place has a turn; its entry 2 lies in the new stretch, but shows the day ahead of the turn.
BOOK = (((), (100,)), ((0, 0, 143950), (1, 0, 143990), (1, 1, 143980), (1, 0, 143970)),
        (("apart", 0, 0, 1, 0, 30, 90), ("look", 1, 2, 5, 60)))
BOOK_WORLD = (0, 40, 60, 144035)
# As many entries, but without worlds: a bad ring, and an entry that the readings have ahead of an earlier one.
BROKEN_BOOK = (BOOK[0], BOOK[1], BOOK[2] + (("look", 2, 1, 1, None),))
VOID_BOOK = (BOOK[0], BOOK[1], BOOK[2] + (("look", 1, 3, 0, None),))


def is_int(value):
    return type(value) is int


def is_index(count, value):
    return is_int(value) and 0 <= value < count


def is_bound(points, value):
    return (type(value) is tuple and len(value) == 3 and is_index(points, value[0])
            and is_index(points, value[1]) and value[0] != value[1] and is_int(value[2]))


def is_system(value):
    return (type(value) is tuple and len(value) == 2 and is_int(value[0]) and value[0] >= 1
            and type(value[1]) is tuple and all(is_bound(value[0], bound) for bound in value[1]))


def is_spot(system, value):
    return type(value) is tuple and len(value) == 2 and is_index(system[0], value[0]) and is_int(value[1])


def is_claim(system, value):
    return (type(value) is tuple and len(value) == 3 and is_spot(system, value[0])
            and is_spot(system, value[1]) and is_int(value[2]))


def are_moments(system, value):
    return (type(value) is tuple and len(value) == system[0]
            and all(is_int(moment) for moment in value) and value[0] == 0)


def keeps(system, moments):
    return all(moments[i] - moments[j] <= most for i, j, most in system[1])


def is_world(system, value):
    return are_moments(system, value) and keeps(system, value)


def is_chain(system, i, j, value):
    bounds = system[1]
    if type(value) is not list or not all(is_index(len(bounds), index) for index in value):
        return False
    if not value:
        return i == j
    meets = all(bounds[a][1] == bounds[b][0] for a, b in zip(value, value[1:]))
    return meets and bounds[value[0]][0] == i and bounds[value[-1]][1] == j


def is_simple(system, chain):
    """Whether no point is the first point of two of its bounds."""
    firsts = [system[1][index][0] for index in chain]
    return len(firsts) == len(set(firsts))


def sum_of(system, chain):
    return sum(system[1][index][2] for index in chain)


def is_ring(system, value):
    if type(value) is not list or not value or not is_index(len(system[1]), value[0]):
        return False
    first = system[1][value[0]][0]
    return is_chain(system, first, first, value) and is_simple(system, value)


def is_bad_ring(system, value):
    return is_ring(system, value) and sum_of(system, value) < 0


def line_of(moments):
    """The line of spots with these moments."""
    rows = {}
    for index, moment in enumerate(moments):
        rows.setdefault(moment, []).append(index)
    return [rows[moment] for moment in sorted(rows)]


def moments_of(world, spots):
    return [world[point] + shift for point, shift in spots]


def box_worlds(system, reach):
    """All worlds of the system with all moments from -reach to reach, ascending."""
    span = range(-reach, reach + 1)
    tried = itertools.product([0], *[span] * (system[0] - 1))
    return [world for world in tried if keeps(system, world)]


def boxed(system, reach):
    """The system with each point from -reach to reach."""
    bounds = [bound for i in range(1, system[0]) for bound in ((i, 0, reach), (0, i, reach))]
    return (system[0], system[1] + tuple(bounds))


def some_systems(seed, many, points, bounds, reach):
    """Systems of few points, with and without worlds; the same ones in each run."""
    rolls = random.Random(seed)
    found = []
    for _ in range(many):
        count = rolls.randint(1, points)
        told = []
        for _ in range(rolls.randint(0, bounds) if count > 1 else 0):
            i, j = rolls.sample(range(count), 2)
            told.append((i, j, rolls.randint(-reach // 2, reach)))
        found.append((count, tuple(told)))
    return found


def with_worlds(*told):
    """Those of some systems that have worlds."""
    gaps = [(system, table_by_passing(system)) for system in some_systems(*told)]
    return [system for system, rows in gaps if all(row[i] == 0 for i, row in enumerate(rows))]


def large_system(seed, tied=False):
    """A tuple (system, world): 24 points, 120 bounds, chains between all points, and moments to 30 digits."""
    rolls = random.Random(seed)
    world = (0,) + tuple(rolls.randint(-BIG // 4, BIG // 4) for _ in range(23))
    pairs = [(i, (i + 1) % 24) for i in range(24)] + [tuple(rolls.sample(range(24), 2)) for _ in range(96)]
    bounds = []
    for i, j in pairs:
        bounds.append((i, j, world[i] - world[j] + (0 if tied else rolls.randint(0, BIG // 4))))
    return (24, tuple(bounds)), world


def large_broken(seed):
    """A system of 24 points and 120 bounds without worlds: its one bad ring has 24 bounds and the sum -1."""
    (points, bounds), world = large_system(seed)
    ring = [(i, (i + 1) % 24, world[i] - world[(i + 1) % 24]) for i in range(24)]
    i, j, most = ring[7]
    ring[7] = (i, j, most - 1)
    return (points, bounds[:96] + tuple(ring))


def table_by_passing(system):
    """The greatest gaps, point after point being allowed on the way; without worlds one on the diagonal is below 0."""
    points, bounds = system
    gaps = [[0 if i == j else None for j in range(points)] for i in range(points)]
    for i, j, most in bounds:
        gaps[i][j] = most if gaps[i][j] is None else min(gaps[i][j], most)
    for k, i, j in itertools.product(range(points), repeat=3):
        if gaps[i][k] is not None and gaps[k][j] is not None:
            passed = gaps[i][k] + gaps[k][j]
            gaps[i][j] = passed if gaps[i][j] is None else min(gaps[i][j], passed)
    return gaps


def mutants(value):
    """Values with one place made another: other kinds, a part too many, a part missing, at any depth."""
    yield from (None, True, False, "x", "", -1, 0, 7, 10 ** 39, (), [], (0,), [0], ((),), [[]])
    if type(value) is int:
        yield from (-value - 1, value + 1, str(value), (value,), [value])
    if type(value) in (list, tuple):
        kind = type(value)
        parts = list(value)
        yield tuple(parts) if kind is list else parts
        for at in range(len(parts) + 1):
            for more in [0, None, True] + parts[:1]:
                yield kind(parts[:at] + [more] + parts[at:])
        for at, part in enumerate(parts):
            yield kind(parts[:at] + parts[at + 1:])
            for mutant in mutants(part):
                yield kind(parts[:at] + [mutant] + parts[at + 1:])
        yield from wide_mutants(kind, parts)


def wide_mutants(kind, parts):
    """Values with two neighbours swapped, or a part put twice."""
    for at in range(len(parts) - 1):
        yield kind(parts[:at] + [parts[at + 1], parts[at]] + parts[at + 2:])
        yield kind(parts[:at] + [parts[at], parts[at]] + parts[at + 2:])


def lists_in(value):
    """All lists in a value, it itself too."""
    if type(value) is list:
        yield value
    if type(value) in (list, tuple):
        for part in value:
            yield from lists_in(part)


def is_places(value):
    if type(value) is not tuple or not value:
        return False
    return all(type(turns) is tuple and all(is_int(turn) for turn in turns)
               and all(b - a > 1 for a, b in zip(turns, turns[1:])) for turns in value)


def is_stretch(places, place, stretch):
    return is_index(len(places), place) and is_index(len(places[place]) + 1, stretch)


def is_entry(places, value):
    if type(value) is not tuple or len(value) != 3 or not is_stretch(places, *value[:2]) or not is_int(value[2]):
        return False
    place, stretch, reading = value
    first = places[place][stretch - 1] - 1 if stretch else None
    behind = places[place][stretch] if stretch < len(places[place]) else None
    return (first is None or reading >= 1440 * first) and (behind is None or reading < 1440 * behind)


def are_ends(least, most):
    told = [end for end in (least, most) if end is not None]
    return told != [] and all(is_int(end) for end in told) and told[0] <= told[-1]


def is_tie(book, value):
    if type(value) is not tuple or not value or not are_ends(*((None, None) + value)[-2:]):
        return False
    if value[0] == "apart" and len(value) == 7:
        return is_stretch(book[0], *value[1:3]) and is_stretch(book[0], *value[3:5]) and value[1:3] != value[3:5]
    return (value[0] == "look" and len(value) == 5 and value[1] != value[2]
            and is_index(len(book[1]), value[1]) and is_index(len(book[1]), value[2]))


def is_book(value):
    if type(value) is not tuple or len(value) != 3 or not is_places(value[0]):
        return False
    if type(value[1]) is not tuple or not all(is_entry(value[0], entry) for entry in value[1]):
        return False
    return type(value[2]) is tuple and all(is_tie(value, tie) for tie in value[2])


def points_of(book):
    """A dict: the number of each point by what it is."""
    return points_at(book[0])


@functools.lru_cache
def points_at(places):
    noughts = [("nought", place, k) for place, turns in enumerate(places) for k in range(len(turns) + 1)]
    changes = [("change", place, k) for place, turns in enumerate(places) for k in range(len(turns))]
    return {told: point for point, told in enumerate(noughts + changes)}


def mark_in(book, world, place, day):
    """The moment of the mark of a day."""
    stretch = sum(turn <= day for turn in book[0][place])
    return world[points_of(book)["nought", place, stretch]] + 1440 * day


def entry_in(book, world, number):
    """The moment of an entry."""
    place, stretch, reading = book[1][number]
    return world[points_of(book)["nought", place, stretch]] + reading


def keeps_places(book, world):
    """Whether changes and entries are where the places have them."""
    for place, turns in enumerate(book[0]):
        for k, turn in enumerate(turns):
            change = world[points_of(book)["change", place, k]]
            if not mark_in(book, world, place, turn - 1) <= change <= mark_in(book, world, place, turn):
                return False
            for number, (at, stretch, _) in enumerate(book[1]):
                early = entry_in(book, world, number) < change
                if at == place and (stretch == k and not early or stretch == k + 1 and early):
                    return False
    return True


def keeps_tie(book, world, tie):
    """Whether the second one less the first one is from least to most."""
    if tie[0] == "apart":
        one, other = [world[points_of(book)[("nought",) + told]] for told in (tie[1:3], tie[3:5])]
    else:
        one, other = [entry_in(book, world, number) for number in tie[1:3]]
    least, most = tie[-2:]
    return (least is None or other - one >= least) and (most is None or other - one <= most)


def keeps_book(book, world):
    """Whether moments are a world of the book, by the words of points [19] to [21]."""
    return keeps_places(book, world) and all(keeps_tie(book, world, tie) for tie in book[2])


def is_void(book):
    """Whether the readings deny a look between two entries of one stretch."""
    for tie in book[2]:
        if tie[0] == "look":
            one, other = book[1][tie[1]], book[1][tie[2]]
            told = other[2] - one[2]
            if one[:2] == other[:2] and ((tie[3] is not None and told < tie[3])
                                         or (tie[4] is not None and told > tie[4])):
                return True
    return False


def local_day(book, world, number, place):
    """The greatest day whose mark at the place is not later than the entry, in a world of a steady book."""
    moment = entry_in(book, world, number)
    far = max(abs(moment - part) for part in world) // 1440 + 5
    # Marks are a day apart but at turns, and never come down.
    low, high = -far, far
    while low + 1 < high:
        middle = (low + high) // 2
        low, high = (middle, high) if mark_in(book, world, place, middle) <= moment else (low, middle)
    return low


def few_worlds(system, most):
    """All worlds of a system, tried one by one; None if there are more than so many to try, or none to be found."""
    gaps = table_by_passing(system)
    if any(row[i] != 0 for i, row in enumerate(gaps)):
        return []
    if None in gaps[0] or any(row[0] is None for row in gaps):
        return None
    tried = 1
    for low, row in zip(gaps[0], gaps):
        tried *= row[0] + low + 1
    if tried > most:
        return None
    spans = [range(-low, row[0] + 1) for low, row in zip(gaps[0], gaps)]
    return [world for world in itertools.product(*spans) if keeps(system, world)]


def is_date(year, month, day):
    """Whether there is such a day; the calendar begins anew every 400 years."""
    if not is_int(year) or not is_int(month) or not is_int(day):
        return False
    try:
        datetime.date(2000 + year % 400, month, day)
    except (ValueError, OverflowError):
        return False
    return True


def are_holidays(value):
    return (type(value) is tuple and all(is_int(day) for day in value)
            and all(a < b for a, b in zip(value, value[1:])))


def is_term(value):
    return (type(value) is tuple and len(value) == 2 and type(value[0]) is str
            and value[0] in ("days", "open", "months", "end") and is_int(value[1]) and value[1] >= 0)


def is_pair(count, value):
    return (type(value) is tuple and len(value) == 2 and is_index(count, value[0]) and is_index(count, value[1])
            and value[0] != value[1])


def are_items(count, value):
    return type(value) in (list, tuple) and all(is_index(count, item) for item in value)


def are_ascending(count, value):
    return type(value) is list and are_items(count, value) and value == sorted(set(value))


def is_carry(count, pairs, value):
    if type(value) is not list or not all(type(part) is tuple and len(part) == 3 for part in value):
        return False
    if not all(is_pair(count, part[:2]) and is_int(part[2]) and part[2] > 0 for part in value):
        return False
    steps = [part[:2] for part in value]
    return set(steps) <= set(pairs) and steps == sorted(set(steps))


def some_places(rolls):
    """One to three places with at most two turns each, around day 0 or far from it."""
    first = rolls.choice([-3, -1, 0, 2, 9 * 10 ** 9])
    found = []
    for _ in range(rolls.randint(1, 3)):
        turns = [first + rolls.randint(0, 1)]
        turns.append(turns[0] + rolls.randint(2, 4))
        found.append(tuple(turns[:rolls.choice([0, 1, 1, 2])]))
    return tuple(found)


def some_entry(rolls, places):
    """An entry near a turn of its place, often at the edge of what its stretch allows."""
    place = rolls.randrange(len(places))
    turns = places[place]
    stretch = rolls.randint(0, len(turns))
    day = ([turns[stretch - 1] - 1] if stretch else []) + ([turns[stretch] - 1] if stretch < len(turns) else [])
    own = rolls.choice(day or [max(places)[0] if max(places) else 0])
    entry = (place, stretch, 1440 * own + rolls.choice([0, 1, 700, 710, 1438, 1439]))
    return entry if is_entry(places, entry) else some_entry(rolls, places)


def some_tie(rolls, places, entries, reach):
    """A tie of stretches or of entries that lie near one another."""
    ends = sorted([rolls.randint(-reach, reach), rolls.randint(-reach, reach)])
    ends = rolls.choice([ends, ends, ends, [None, ends[0]], [ends[0], None], [ends[0]] * 2])
    if len(entries) > 1 and rolls.random() < 0.6:
        return ("look", *rolls.sample(range(len(entries)), 2), *ends)
    stretches = [(place, k) for place, turns in enumerate(places) for k in range(len(turns) + 1)]
    if len(stretches) < 2:
        return None
    one, other = rolls.sample(stretches, 2)
    return ("apart", *one, *other, *ends)


def some_books(seed, many, reach=4):
    """Books with and without worlds, void ones too; the same ones in each run."""
    rolls = random.Random(seed)
    found = []
    for _ in range(many):
        places = some_places(rolls)
        entries = tuple(some_entry(rolls, places) for _ in range(rolls.randint(0, 5)))
        ties = [some_tie(rolls, places, entries, reach) for _ in range(rolls.randint(0, 6))]
        found.append((places, entries, tuple(tie for tie in ties if tie)))
    return found


def tight_books(seed, many):
    """Tuples (book, world): books whose entries are held so near to their moments in the world that few worlds are."""
    rolls = random.Random(seed)
    found = []
    for _ in range(many):
        places, noughts, changes, entries = (some_places(rolls) + ((),))[:2], [], [], []
        for place, turns in enumerate(places):
            local = [rolls.randint(-2000, 2000) if place else 0]
            for k, turn in enumerate(turns):
                local.append(local[k] + rolls.choice([-1440, -1439, -1438, -60, 0, 60, 1440]))
                early, late = local[k] + 1440 * (turn - 1), local[k + 1] + 1440 * turn
                change = rolls.choice([early, late, min(early + 1, late), (early + late) // 2])
                last = min(change - 1, local[k] + 1440 * turn - 1)
                first = max(change, local[k + 1] + 1440 * (turn - 1))
                entries += [(place, k, last - local[k]), (place, k + 1, first - local[k + 1])]
                changes.append(change)
            if not turns:
                entries.append((place, 0, 1440 * rolls.randint(-3, 3) + rolls.choice([0, 700, 1439])))
            noughts += local
        world = tuple(noughts + changes)
        book = (places, (), ())
        for _ in range(rolls.randint(0, 8)):
            # An entry about the midnight at which a day begins at some place.
            place = rolls.randrange(len(places))
            day = rolls.randint(*(max(places)[0] - 2, max(places)[0] + 2) if max(places) else (-2, 2))
            moment = mark_in(book, world, place, day) + rolls.randint(-1, 1)
            place = rolls.randrange(len(places))
            k = rolls.randint(0, len(places[place]))
            nought = world[points_of(book)["nought", place, k]]
            if keeps_places((places, ((place, k, moment - nought),), ()), world):
                entries.append((place, k, moment - nought))
        entries = tuple(entry for entry in entries if is_entry(places, entry))
        book = (places, entries, ())
        ties = []
        for number in range(len(entries) - 1):
            told = entry_in(book, world, number + 1) - entry_in(book, world, number)
            ties.append(("look", number, number + 1, told - rolls.randint(0, 2), told + rolls.randint(0, 1)))
        found.append(((places, entries, tuple(ties)), world))
    return found


def large_book(seed):
    """A tuple (book, world): 6 places of 4 turns, 48 entries and 40 ties; the system has 54 points and 160 bounds."""
    rolls = random.Random(seed)
    start = rolls.choice([-10 ** 10 + 99, -7, 10 ** 10 - 99])
    places = tuple(tuple(start + place + 4 * k for k in range(4)) for place in range(6))
    noughts, entries = [], []
    for place in range(6):
        # The sum of a reading and of the moment of its nought need not be near those at other places.
        base = rolls.randint(-10 ** 11, 10 ** 11) if place else 0
        noughts += [base + rolls.randint(-300, 300) if place or k else 0 for k in range(5)]
    changes = [noughts[5 * place] + 1440 * places[place][k] - 700 for place in range(6) for k in range(4)]
    for number in range(48):
        place = number // 8
        stretch, when = (0, changes[4 * place] - 1) if number // 4 * 4 == number else (4, changes[4 * place + 3])
        moment = when - rolls.randint(0, 2000) if stretch == 0 else when + rolls.randint(0, 2000)
        entries.append((place, stretch, moment - noughts[5 * place + stretch]))
    book, world = (places, tuple(entries), ()), tuple(noughts + changes)
    ties = []
    for place in range(6):
        for k in range(4):
            told = noughts[5 * place + k + 1] - noughts[5 * place + k]
            ties.append(("apart", place, k, place, k + 1, told - rolls.randint(0, 90), told + rolls.randint(0, 90)))
    for _ in range(16):
        one, other = rolls.sample(range(48), 2)
        told = entry_in(book, world, other) - entry_in(book, world, one)
        ties.append(("look", one, other, None, told + rolls.randint(0, 900)))
    return (places, tuple(entries), tuple(ties)), world
