"""Points [56] to [58]: houses against their logs, and beside all worlds of small books, tried one by one."""

import copy
import inspect
import itertools
import random
import unittest

from dueanywhere import bounds
from dueanywhere import clocks
from dueanywhere import closings
from dueanywhere import days
from dueanywhere import errors
from dueanywhere import house as houses
from dueanywhere.house import House
from dueanywhere.house import StrictHouse
from dueanywhere.house import joined
from dueanywhere.house import replay
from tests import helper

TIE = ("apart", 0, 0, 1, 0, 30, 90)


def example():
    house = House(((), ()))
    house.tie(TIE)
    house.bill((0, 0, 0), 70)
    house.pay((1, 0, 20), 30)
    house.pay((1, 0, 60), 40)
    house.close(0)
    return house


def entries_of(deed):
    return {"bill": deed[1:2], "pay": deed[1:2], "send": deed[1:3]}.get(deed[0], ())


def book_of(places, log):
    """The book of a log by the words of point [56]."""
    entries, ties = (), ()
    for deed in log:
        if deed[0] == "send":
            ties += (("look", len(entries), len(entries) + 1, 0, None),)
        if deed[0] == "tie":
            ties += (deed[1],)
        entries += entries_of(deed)
    return (places, entries, ties)


def numbers_of(log, kind):
    """For each deed of a kind its index in the log and the number of its first entry."""
    found, entries = [], 0
    for index, deed in enumerate(log):
        if deed[0] == kind:
            found.append((index, entries))
        entries += len(entries_of(deed))
    return found


def closed_of(log):
    return [deed[1] for deed in log if deed[0] == "close"]


def do(house, deed):
    """Do a deed, and return what the method returns."""
    kind, *parts = deed
    return {"bill": house.bill, "pay": house.pay, "send": house.send, "tie": house.tie, "close": house.close}[kind](*parts)


class Worlds:
    """What a house is asked, by its log and all worlds of its book, tried one by one."""

    def __init__(self, places, log, most=400):
        self.places, self.log, self.most = places, log, most
        self.book = book_of(places, log)
        self.found = helper.few_worlds(clocks.system_of(self.book), most)

    def moments(self, kind, world):
        """For each deed of a kind the tuple of its moment, or of both, and its amount."""
        found = []
        for index, entry in numbers_of(self.log, kind):
            told = [helper.entry_in(self.book, world, entry + k) for k in range(2 if kind == "send" else 1)]
            found.append((*told, self.log[index][-1]))
        return found

    def mark(self, world, place, day):
        return helper.mark_in(self.book, world, place, day)

    def arrears(self, world, place, day):
        mark = self.mark(world, place, day)
        owed = sum(amount for moment, amount in self.moments("bill", world) if moment < mark)
        return owed - sum(amount for moment, amount in self.moments("pay", world) if moment < mark)

    def in_flight(self, world, place, day):
        mark = self.mark(world, place, day)
        return sum(amount for leaving, arriving, amount in self.moments("send", world) if leaving < mark <= arriving)

    def clearing(self, world, bill):
        """The clearing of a bill, the bills going by their readings, then by their numbers."""
        told = [deed for deed in self.log if deed[0] == "bill"]
        key = (told[bill][1][2], bill)
        debt = sum(deed[2] for number, deed in enumerate(told) if (deed[1][2], number) <= key)
        start = self.moments("bill", world)[bill][0]
        pays = self.moments("pay", world)
        for moment in sorted([start] + [when for when, _ in pays]):
            if moment >= start and sum(amount for when, amount in pays if when <= moment) >= debt:
                return moment
        return None

    def is_cleared(self, world, bill, mark):
        told = self.clearing(world, bill)
        return told is not None and told < mark

    def booked(self, world):
        """The booked sums and the open sum, by the words of point [47]."""
        marks = [(index, 1440 * (deed[1] + 1)) for index, deed in enumerate(self.log) if deed[0] == "close"]
        sums = [0] * (len(marks) + 1)
        for kind, sign in (("bill", 1), ("pay", -1)):
            for (index, entry), (moment, amount) in zip(numbers_of(self.log, kind), self.moments(kind, world)):
                behind = [number for number, (at, mark) in enumerate(marks) if at > index and moment < mark]
                sums[behind[0] if behind else -1] += sign * amount
        return sums

    def word(self, truths):
        return "sure" if all(truths) else "maybe" if any(truths) else "never"

    def ends(self, told):
        return (min(told), max(told))


def some_places(rolls):
    return rolls.choice([((),), ((), ()), ((), ()), ((), (), ()), ((), (1,)), ((), (2,)), ((), (), (1,))])


def some_entry(rolls, places, place=None):
    """An entry near a midnight, or near the change at a turn."""
    place = rolls.randrange(len(places)) if place is None else place
    stretch = rolls.randint(0, len(places[place]))
    entry = (place, stretch, 1440 * rolls.choice([0, 1, 1, 1, 2]) + rolls.choice([-3, -2, -1, 0, 0, 1, 2, 698, 703]))
    return entry if helper.is_entry(places, entry) else some_entry(rolls, places, place)


def some_deed(rolls, house):
    """A deed, perhaps one that does not fit or that is refused."""
    places, count = house.places, len(house.book[1])
    kind = rolls.choice(["bill", "bill", "pay", "pay", "pay", "pay", "send", "look", "apart", "close"])
    if kind == "bill":
        return ("bill", some_entry(rolls, places, 0), rolls.randint(1, 4))
    if kind == "pay":
        return ("pay", some_entry(rolls, places), rolls.randint(1, 4))
    if kind == "send":
        return ("send", some_entry(rolls, places), some_entry(rolls, places), rolls.randint(1, 4))
    if kind == "close":
        return ("close", max(closed_of(house) + [-1]) + rolls.choice([1, 1, 2]))
    low = rolls.choice([None, rolls.randint(-4, 2), rolls.randint(-1500, 1500)])
    high = None if low is not None and rolls.random() < 0.3 else (low or 0) + rolls.randint(0, 3)
    if kind == "look" and count > 1:
        return ("tie", ("look", *rolls.sample(range(count), 2), low, high))
    stretches = [(place, k) for place, turns in enumerate(places) for k in range(len(turns) + 1)]
    if len(stretches) < 2:
        return ("close", max(closed_of(house) + [-1]) + 1)
    one, other = rolls.sample(stretches, 2)
    return ("tie", ("apart", *one, *other, low, high))


def tied_house(rolls, kind=House):
    """A house whose clocks are few minutes apart, and whose changes lie within few minutes."""
    house = kind(some_places(rolls))
    for place, turns in enumerate(house.places):
        for k in range(len(turns) + 1):
            if place:
                low = rolls.randint(-3, 1)
                house.tie(("apart", 0, 0, place, k, low, low + rolls.randint(0, 4)))
        if turns:
            base = 1440 * (turns[0] - 1)
            house.pay((place, 0, base + 698), 1)
            house.pay((place, 1, base + 703), 1)
    return house


def try_deed(house, deed):
    """Do a deed; what it raises if it is refused."""
    try:
        do(house, deed)
    except errors.DueError as error:
        return error
    return None


def some_house(rolls, kind=House, many=8):
    """A house with some deeds; those that do not fit are left out."""
    house = tied_house(rolls, kind)
    for _ in range(rolls.randint(0, many)):
        try_deed(house, some_deed(rolls, house))
    return house


def outcome(call):
    """What a call returns or raises, to be compared."""
    try:
        return ("returns", call())
    except errors.DueError as error:
        return ("raises", type(error), vars(error))


def all_answers(house):
    """The answers of a house to many questions, errors too."""
    asks = [house.system, house.rest, lambda: house.late(("days", 1), ()), lambda: house.late(("open", 0), (2,))]
    for place, day in itertools.product(range(len(house.places) + 1), range(-1, 4)):
        asks += [lambda p=place, d=day: house.mark(p, d), lambda p=place, d=day: house.arrears(p, d),
                 lambda p=place, d=day: house.in_flight(p, d)]
        asks += [lambda n=number, p=place, d=day: house.cleared(n, p, d) for number in range(3)]
    for number in range(len(house.book[1]) + 1):
        asks += [lambda n=number: house.spot(n), lambda n=number: house.clearing(n)]
        asks += [lambda n=number, p=place: house.day_range(n, p) for place in range(len(house.places) + 1)]
    for day in range(-1, 9):
        asks += [lambda d=day: house.report(d), lambda d=day: house.present(d)]
    told = [outcome(ask) for ask in asks]
    return told + [house.places, house.log, house.book, len(house), list(house)]


class Examples(unittest.TestCase):
    def test_all_of_them(self):
        house = House(((), ()))
        told = [house.tie(TIE), house.bill((0, 0, 0), 70), house.pay((1, 0, 20), 30), house.pay((1, 0, 60), 40),
                house.close(0)]
        self.assertEqual(told, [0, 0, 0, 1, 0])
        told = [house.clearing(0), house.cleared(0, 0, 1), house.report(0), house.day_range(1, 0)]
        self.assertEqual(told, [(90, 150), "sure", (0, 0), (0, 0)])
        with self.assertRaises(errors.Contradicted) as caught:
            house.tie(("look", 1, 2, 39, 39))
        self.assertEqual(caught.exception.deeds, [5])
        self.assertEqual(house, example())


class Interface(unittest.TestCase):
    METHODS = {"bill": "entry amount", "pay": "entry amount", "send": "entry other_entry amount", "tie": "tie",
               "close": "day", "undo": "", "begin": "", "keep": "", "drop": "", "twin": "", "system": "",
               "spot": "entry_number", "mark": "place day", "day_range": "entry_number place", "arrears": "place day",
               "in_flight": "place day", "cleared": "bill place day", "clearing": "bill", "late": "term holidays",
               "report": "day", "present": "day", "rest": ""}

    def test_methods_stand_in_their_classes(self):
        for name, words in self.METHODS.items():
            self.assertIn(name, vars(House))
            told = inspect.signature(vars(House)[name]).parameters.values()
            self.assertEqual([parameter.name for parameter in told], ["self"] + words.split(), name)
            self.assertTrue(all(parameter.default is parameter.empty for parameter in told))
        for name in ("bill", "pay", "send"):
            self.assertIn(name, vars(StrictHouse))
            told = inspect.signature(vars(StrictHouse)[name]).parameters
            self.assertEqual(list(told), ["self"] + self.METHODS[name].split())
        for name in ("places", "log", "book", "depth"):
            self.assertIsInstance(vars(House)[name], property)
        for name in ("__init__", "__len__", "__iter__", "__eq__"):
            self.assertIn(name, vars(House))
        for routine, words in ((House, "places"), (StrictHouse, "places"), (replay, "places log"),
                               (joined, "house other_house")):
            self.assertEqual(list(inspect.signature(routine).parameters), words.split())
        for routine in (replay, joined, House, StrictHouse):
            self.assertEqual(routine.__module__, houses.__name__)

    def test_by_position_and_by_names(self):
        one, other = House(places=((), ())), House(((), ()))
        self.assertEqual(one.tie(tie=TIE), other.tie(TIE))
        self.assertEqual(one.bill(amount=70, entry=(0, 0, 0)), other.bill((0, 0, 0), 70))
        self.assertEqual(one.pay(entry=(1, 0, 20), amount=30), other.pay((1, 0, 20), 30))
        told = one.send(amount=5, other_entry=(1, 0, 70), entry=(0, 0, 9))
        self.assertEqual(told, other.send((0, 0, 9), (1, 0, 70), 5))
        self.assertEqual(one.close(day=0), other.close(0))
        self.assertEqual(one, other)
        for name, args in (("spot", {"entry_number": 1}), ("mark", {"place": 1, "day": 2}), ("clearing", {"bill": 0}),
                           ("day_range", {"entry_number": 1, "place": 0}), ("arrears", {"place": 1, "day": 1}),
                           ("in_flight", {"place": 0, "day": 1}), ("cleared", {"bill": 0, "place": 1, "day": 1}),
                           ("late", {"term": ("open", 1), "holidays": (2,)}), ("report", {"day": 0}),
                           ("present", {"day": 0})):
            backwards = dict(reversed(list(args.items())))
            self.assertEqual(getattr(one, name)(**backwards), getattr(other, name)(*args.values()), name)
        self.assertEqual(replay(log=one.log, places=one.places), one)
        empty = House(((), ()))
        self.assertEqual(joined(other_house=empty, house=one), one)

    def test_what_is_returned_is_new(self):
        house = example()
        right = copy.deepcopy(all_answers(house))
        told = all_answers(house) + [house.log, house.late(("days", 1), ())]
        seen = list(helper.lists_in(told))
        self.assertEqual(len({id(part) for part in seen}), len(seen))
        for part in seen:
            part.append("spoiled")
        self.assertEqual(all_answers(house), right)
        log = house.log
        again = replay(house.places, log)
        log.append("spoiled")
        self.assertEqual(again, house)

    def test_equal_houses(self):
        house = example()
        house.begin()
        for other in (example(), house.twin(), replay(house.places, house.log)):
            self.assertIs(house == other, True)
            self.assertIs(house != other, False)
        strict = StrictHouse(((), ()))
        self.assertIs(strict == StrictHouse(((), ())), True)
        for other in (strict, 5, None, (), [], "house", ((), ()), House(((),)), example().log, errors.NoBlock("x")):
            self.assertIs(House(((), ())) == other, False)
            self.assertIs(other == House(((), ())), False)
            self.assertIs(House(((), ())) != other, True)
        house.keep()
        house.undo()
        self.assertIs(house == example(), False)

    def test_properties(self):
        house = example()
        self.assertEqual(house.places, ((), ()))
        self.assertEqual(house.book, (((), ()), ((0, 0, 0), (1, 0, 20), (1, 0, 60)), (TIE,)))
        self.assertEqual([len(house), house.depth, list(house)], [5, 0, house.log])
        self.assertEqual(house.log, [("tie", TIE), ("bill", (0, 0, 0), 70), ("pay", (1, 0, 20), 30),
                                     ("pay", (1, 0, 60), 40), ("close", 0)])
        empty = House(((),))
        self.assertEqual([len(empty), empty.log, empty.book, list(empty)], [0, [], (((),), (), ()), []])


class LikeTheirLogs(unittest.TestCase):
    def test_houses_that_did_and_took_back(self):
        for seed, kind in itertools.product(range(60), (House, StrictHouse)):
            rolls = random.Random(seed)
            house = tied_house(rolls, kind)
            log, starts = house.log, []
            for _ in range(30):
                self.step(rolls, house, log, starts)
                self.assertEqual([house.log, len(house), house.depth], [log, len(log), len(starts)])
                self.assertEqual(house.book, book_of(house.places, log))
            again = replay(house.places, log)
            self.assertEqual(all_answers(again), all_answers(house))
            self.assertIs(again == house, kind is House)
            self.assertEqual(all_answers(house.twin()), all_answers(house))

    def step(self, rolls, house, log, starts):
        """One thing that is done to a house, and to its log and the beginnings of its blocks."""
        way = rolls.choice(["do", "do", "do", "do", "undo", "begin", "keep", "drop"])
        if way == "do":
            deed = some_deed(rolls, house)
            number = sum(told[0] == deed[0] for told in log)
            told = outcome(lambda: do(house, deed))
            if told[0] == "returns":
                self.assertEqual(told[1], number)
                log.append(deed)
        elif way == "begin":
            self.assertIsNone(house.begin())
            starts.append(len(log))
        elif way == "undo":
            if len(log) > max(starts + [0]):
                self.assertEqual(house.undo(), log.pop())
            else:
                self.assertRaises(errors.NothingToUndo, house.undo)
        elif not starts:
            self.assertRaises(errors.NoBlock, getattr(house, way))
        elif way == "keep":
            self.assertIsNone(house.keep())
            starts.pop()
        else:
            self.assertIsNone(house.drop())
            del log[starts.pop():]

    def test_blocks_in_one_another(self):
        house = House(((),))
        house.bill((0, 0, 1), 1)
        house.begin()
        house.bill((0, 0, 2), 2)
        house.begin()
        house.bill((0, 0, 3), 3)
        self.assertEqual(house.depth, 2)
        house.keep()
        self.assertEqual([house.depth, len(house)], [1, 3])
        self.assertEqual([house.undo(), house.undo()], [("bill", (0, 0, 3), 3), ("bill", (0, 0, 2), 2)])
        self.assertRaises(errors.NothingToUndo, house.undo)
        house.begin()
        house.close(4)
        house.drop()
        house.bill((0, 0, 9), 9)
        house.drop()
        self.assertEqual([house.depth, house.log], [0, [("bill", (0, 0, 1), 1)]])
        self.assertEqual(house.undo(), ("bill", (0, 0, 1), 1))
        for call, error in ((house.undo, errors.NothingToUndo), (house.keep, errors.NoBlock), (house.drop, errors.NoBlock)):
            self.assertRaises(error, call)
        self.assertEqual(house, House(((),)))

    def test_a_day_that_was_closed_in_a_dropped_block_can_be_closed(self):
        house = House(((),))
        house.begin()
        house.close(9)
        house.drop()
        self.assertEqual([house.close(3), house.report(3)], [0, (0, 0)])
        self.assertRaises(errors.InvalidDay, house.report, 9)

    def test_twins(self):
        for kind in (House, StrictHouse):
            house = kind(((), ()))
            house.tie(TIE)
            house.begin()
            house.bill((0, 0, 5), 1)
            other = house.twin()
            self.assertIs(type(other), kind)
            self.assertEqual([other.depth, other.log], [0, house.log])
            other.pay((1, 0, 9), 4)
            other.undo()
            other.undo()
            other.begin()
            self.assertEqual([len(house), len(other), house.depth, other.depth], [2, 1, 1, 1])
            house.drop()
            house.undo()
            self.assertEqual([len(house), len(other)], [0, 1])


class AllWorlds(unittest.TestCase):
    def test_what_a_house_is_asked(self):
        seen = {"sure": 0, "maybe": 0, "never": 0, "asked": 0, "cleared": 0}
        for seed in range(400):
            rolls = random.Random(seed)
            house = some_house(rolls, rolls.choice([House, StrictHouse]))
            told = Worlds(house.places, house.log)
            if not told.found:
                continue
            seen["asked"] += 1
            for place, day in itertools.product(range(len(house.places)), range(-1, 4)):
                right = told.ends([told.arrears(world, place, day) for world in told.found])
                self.assertEqual(house.arrears(place, day), right)
                right = told.ends([told.in_flight(world, place, day) for world in told.found])
                self.assertEqual(house.in_flight(place, day), right)
            self.assert_bills(house, told, seen)
            self.assert_reports(house, told)
        self.assertGreater(min(seen.values()), 40, seen)

    def assert_bills(self, house, told, seen):
        bills = [deed for deed in house.log if deed[0] == "bill"]
        late = [house.late(term, holidays) for term, holidays in ((("days", 0), ()), (("open", 0), (2,)))]
        for bill, deed in enumerate(bills):
            for place, day in itertools.product(range(len(house.places)), range(4)):
                right = told.word([told.is_cleared(world, bill, told.mark(world, place, day)) for world in told.found])
                self.assertEqual(house.cleared(bill, place, day), right)
                seen[right] += 1
            clearings = [(told.clearing(world, bill), told.moments("bill", world)[bill][0]) for world in told.found]
            right = None
            if clearings[0][0] is not None:
                right = told.ends([moment - start for moment, start in clearings])
                seen["cleared"] += 1
            self.assertEqual(house.clearing(bill), right)
            for words, (term, holidays) in zip(late, ((("days", 0), ()), (("open", 0), (2,)))):
                due = days.due_day(deed[1][2] // 1440, term, holidays) + 1
                truths = [not told.is_cleared(world, bill, told.mark(world, 0, due)) for world in told.found]
                self.assertEqual(words[bill], told.word(truths))
        self.assertEqual([len(words) for words in late], [len(bills)] * 2)

    def assert_reports(self, house, told):
        self.assertEqual(house.rest(), told.ends([told.booked(world)[-1] for world in told.found]))
        closes = [index for index, deed in enumerate(house.log) if deed[0] == "close"]
        for closing, index in enumerate(closes):
            day = house.log[index][1]
            present = told.ends([told.booked(world)[closing] for world in told.found])
            self.assertEqual(house.present(day), present)
            then = Worlds(house.places, house.log[:index + 1])
            if then.found:
                report = told.ends([then.booked(world)[closing] for world in then.found])
                self.assertEqual(house.report(day), report)
                self.assertTrue(report[0] <= present[0] <= present[1] <= report[1])
            # What is told behind the closing is not in its report.
            self.assertEqual(house.report(day), replay(house.places, house.log[:index + 1]).report(day))

    def test_local_days(self):
        seen = {True: 0, False: 0}
        for seed in range(250):
            rolls = random.Random(seed)
            house = some_house(rolls, many=5)
            told = Worlds(house.places, house.log)
            if not told.found:
                continue
            for number, place in itertools.product(range(len(house.book[1])), range(len(house.places))):
                right = outcome(lambda: days.day_range(house.book, number, place))
                self.assertEqual(outcome(lambda: house.day_range(number, place)), right)
                if right[0] == "returns":
                    found = [helper.local_day(told.book, world, number, place) for world in told.found]
                    self.assertEqual(right[1], told.ends(found))
                    seen[right[1][0] == right[1][1]] += 1
        self.assertGreater(min(seen.values()), 30)

    def test_reports_never_change(self):
        for seed in range(60):
            rolls = random.Random(seed)
            house = tied_house(rolls)
            reports, presents = {}, {}
            for _ in range(14):
                try_deed(house, some_deed(rolls, house))
                for day in closed_of(house):
                    self.assertEqual(reports.setdefault(day, house.report(day)), house.report(day))
                    now = house.present(day)
                    low, high = presents.get(day, reports[day])
                    self.assertTrue(low <= now[0] <= now[1] <= high)
                    presents[day] = now

    def test_news_by_the_words(self):
        for seed in range(80):
            rolls = random.Random(seed)
            house = some_house(rolls, many=12)
            news = news_of(house.places, house.log)
            system = clocks.system_of((house.places, (), ()))
            self.assertTrue(bounds.are_alike(closings.known(system, 0, news), house.system()))
            question = [0] * len(closed_of(house)) + [1]
            self.assertEqual(house.rest(), closings.answer_range(system, 0, news, question))
            for closing, day in enumerate(closed_of(house)):
                history = closings.report_history(system, 0, news, closing)
                self.assertEqual([house.report(day), house.present(day)], [history[0], history[-1]])


def news_of(places, log):
    """The news of a log by the words of point [57]; the bounds of a deed are those that it brings to the book."""
    found = []
    for index, deed in enumerate(log):
        ahead, behind = book_of(places, log[:index]), book_of(places, log[:index + 1])
        entries = (places, behind[1], ahead[2])
        before, between, after = [list(clocks.system_of(book)[1]) for book in (ahead, entries, behind)]
        found += [("bound", *bound) for bound in beside(between, before)]
        if deed[0] in ("bill", "pay"):
            spot = clocks.spot_of(behind, len(ahead[1]))
            found.append(("post", spot, deed[2] if deed[0] == "bill" else -deed[2]))
        found += [("bound", *bound) for bound in beside(after, between)]
        if deed[0] == "close":
            found.append(("close", 1440 * (deed[1] + 1)))
    return found


def beside(row, less):
    """What stands in a row besides the other one."""
    row = list(row)
    for part in less:
        row.remove(part)
    return row


class Debts(unittest.TestCase):
    def test_bills_go_by_their_readings(self):
        house = House(((),))
        told = [house.bill((0, 0, 500), 7), house.bill((0, 0, 100), 5), house.bill((0, 0, 500), 3), house.bill((0, 0, -9), 1)]
        self.assertEqual(told, [0, 1, 2, 3])
        # The debts are 1 for the bill 3, 6 for 1, 13 for 0, 16 for 2.
        house.pay((0, 0, 600), 13)
        self.assertEqual([house.clearing(bill) for bill in range(4)], [(100, 100), (500, 500), None, (609, 609)])
        self.assertEqual([house.cleared(bill, 0, 1) for bill in range(4)], ["sure", "sure", "never", "sure"])
        self.assertEqual(house.late(("days", 0), ()), ["never", "never", "sure", "sure"])
        house.pay((0, 0, 1440), 3)
        self.assertEqual([house.clearing(2), house.cleared(2, 0, 1), house.cleared(2, 0, 2)], [(940, 940), "never", "sure"])
        self.assertEqual(house.late(("days", 1), ()), ["never"] * 3 + ["never"])

    def test_due_days(self):
        house = House(((),))
        house.bill((0, 0, 100), 5)
        house.pay((0, 0, 3 * 1440 - 1), 5)
        # Day 0 is a Saturday, day 2 a Monday: it ends with the mark of day 3.
        self.assertEqual(house.late(("open", 0), ()), ["never"])
        self.assertEqual(house.late(("open", 0), (2,)), ["never"])
        self.assertEqual(house.late(("days", 1), ()), ["sure"])
        self.assertEqual(house.late(("days", 2), ()), ["never"])
        self.assertEqual(house.late(("end", 0), ()), ["never"])
        self.assertEqual(House(((),)).late(("end", 0), ()), [])

    def test_a_house_without_bounds(self):
        house = House(((), ()))
        house.bill((0, 0, 5), 4)
        house.pay((1, 0, 5), 4)
        self.assertEqual([house.clearing(0), house.cleared(0, 0, 1), house.day_range(1, 0)], [(0, None), "maybe", (None, None)])
        self.assertEqual([house.arrears(0, 1), house.arrears(1, 1), house.rest()], [(0, 4), (-4, 0), (0, 0)])
        house.close(0)
        self.assertEqual([house.report(0), house.rest()], [(0, 4), (-4, 0)])
        house.tie(("apart", 0, 0, 1, 0, 1440, None))
        self.assertEqual([house.report(0), house.present(0), house.rest()], [(0, 4), (4, 4), (-4, -4)])

    def test_entries_tell_when_clocks_were_changed(self):
        house = House(((), (1,)))
        house.tie(("apart", 0, 0, 1, 1, 0, 0))
        house.pay((1, 0, 50), 5)
        house.close(-1)
        self.assertEqual([house.report(-1), house.present(-1), house.rest()], [(-5, 0), (-5, 0), (-5, 0)])
        # The clock was changed at 0 at the latest, and the first payment came ahead of that.
        house.pay((1, 1, 0), 1)
        self.assertEqual([house.report(-1), house.present(-1), house.rest()], [(-5, 0), (-5, -5), (-1, -1)])

    def test_what_is_told_behind_a_closing_is_not_in_it(self):
        house = House(((),))
        house.bill((0, 0, 5), 4)
        house.close(0)
        house.bill((0, 0, 9), 8)
        house.close(2)
        house.pay((0, 0, 3), 1)
        self.assertEqual([house.report(0), house.present(0), house.report(2), house.present(2), house.rest()],
                         [(4, 4), (4, 4), (8, 8), (8, 8), (-1, -1)])

    def test_sends_in_flight(self):
        house = House(((), ()))
        house.tie(TIE)
        self.assertEqual(house.send((0, 0, 1400), (1, 0, 1380), 7), 0)
        # It arrives at 1410 to 1470.
        self.assertEqual([house.in_flight(0, 1), house.in_flight(0, 0), house.in_flight(0, 2)], [(0, 7), (0, 0), (0, 0)])
        house.tie(("look", 0, 1, 40, None))
        self.assertEqual(house.in_flight(0, 1), (7, 7))
        self.assertEqual(house.send((0, 0, 1440), (0, 0, 1440), 5), 1)
        self.assertEqual([house.in_flight(0, 1), house.arrears(0, 9), house.rest()], [(7, 7), (0, 0), (0, 0)])


class Refused(unittest.TestCase):
    def test_deeds_that_do_not_fit(self):
        seen = 0
        for seed in range(300):
            rolls = random.Random(seed)
            house = tied_house(rolls)
            for _ in range(14):
                before = all_answers(house) if seed % 10 == 0 else None
                log, deed = house.log, some_deed(rolls, house)
                error = try_deed(house, deed)
                book = book_of(house.places, log + [deed])
                self.assertEqual(error is None, clocks.book_bar(book) is None)
                if error is not None:
                    seen += 1
                    self.assertIs(type(error), errors.Contradicted)
                    self.assert_deeds(house.places, log + [deed], error.deeds)
                    self.assertEqual(house.log, log)
                    self.assertTrue(before is None or all_answers(house) == before)
        self.assertGreater(seen, 200)

    def assert_deeds(self, places, log, deeds):
        """Some bad ring of the book has its bounds from just these deeds, and from changes."""
        self.assertEqual(deeds, sorted(set(deeds)))
        self.assertIn(len(log) - 1, deeds)
        book = book_of(places, log)
        if helper.is_void(book):
            self.assertEqual(deeds, [len(log) - 1])
            return
        owners = owners_of(places, log)
        points, told = clocks.system_of(book)
        self.assertEqual(len(told), len(owners))
        kept = [(bound, owner) for bound, owner in zip(told, owners) if owner is None or owner in deeds]
        self.assertTrue(has_ring(points, kept, set(deeds)), (log, deeds))

    def test_the_refused_deed_is_always_among_them(self):
        house = House(((), (), ()))
        house.tie(("apart", 0, 0, 1, 0, 0, 10))
        house.close(3)
        house.tie(("apart", 1, 0, 2, 0, 0, 10))
        house.bill((0, 0, 5), 1)
        for tie, deeds in ((("apart", 0, 0, 2, 0, 21, None), [0, 2, 4]), (("apart", 1, 0, 2, 0, 11, None), [2, 4]),
                           (("apart", 2, 0, 0, 0, 1, 9), [0, 2, 4])):
            with self.assertRaises(errors.Contradicted) as caught:
                house.tie(tie)
            self.assertEqual(caught.exception.deeds, deeds)
        self.assertEqual(len(house), 4)

    def test_books_that_would_be_void(self):
        house = House(((), ()))
        house.tie(TIE)
        house.pay((1, 0, 20), 1)
        house.pay((1, 0, 60), 1)
        for call in (lambda: house.tie(("look", 0, 1, 41, None)), lambda: house.tie(("look", 1, 0, 0, 3)),
                     lambda: house.send((1, 0, 8), (1, 0, 7), 5), lambda: house.send((0, 0, 8), (0, 0, 7), 5)):
            with self.assertRaises(errors.Contradicted) as caught:
                call()
            self.assertEqual(caught.exception.deeds, [3])
        self.assertEqual(house.tie(("look", 0, 1, 40, 40)), 1)
        self.assertEqual(house.send((1, 0, 7), (1, 0, 7), 5), 0)

    def test_entries_that_their_changes_deny(self):
        house = House(((), (1,)))
        house.tie(("apart", 1, 0, 1, 1, 0, 0))
        house.pay((1, 1, 100), 1)
        with self.assertRaises(errors.Contradicted) as caught:
            house.pay((1, 0, 100), 1)
        self.assertEqual(caught.exception.deeds, [0, 1, 2])
        self.assertEqual(house.pay((1, 0, 99), 1), 1)
        # Changes bring bounds, too, but no deed brings them: the stretch 1 begins a day late.
        house = House(((), (1,)))
        with self.assertRaises(errors.Contradicted) as caught:
            house.tie(("apart", 1, 0, 1, 1, None, -2881))
        self.assertEqual(caught.exception.deeds, [0])

    def test_wrong_values(self):
        house, before = example(), example()
        entries = (None, (2, 0, 0), (0, 1, 0), (0, 0, None), (0, 0, True), (0, 0), [0, 0, 0], (0, 0, 0, 0), 5, "0.0@0", House(((),)))
        amounts = (None, 0, -1, True, "5", (5,), House(((),)))
        for entry in entries:
            for call in (lambda: house.bill(entry, None), lambda: house.pay(entry, 5),
                         lambda: house.send(entry, (0, 0, 0), 5), lambda: house.send((0, 0, 0), entry, None)):
                self.assertRaises(errors.InvalidEntry, call)
        self.assertRaises(errors.InvalidEntry, house.bill, (1, 0, 0), 5)
        for amount in amounts:
            for call in (lambda: house.bill((0, 0, 0), amount), lambda: house.pay((1, 0, 0), amount),
                         lambda: house.send((0, 0, 1), (0, 0, 0), amount)):
                self.assertRaises(errors.InvalidAmount, call)
        for tie in (None, (), ("apart", 0, 0, 0, 0, 1, 1), ("look", 0, 3, 1, 1), ("look", 0, 0, 1, 1), ("look", 0, 1, 2, 1),
                    ["look", 0, 1, 1, 2], ("look", 0, 1, None, None), ("look", 0, 1, True, 1), ("tie", TIE), House(((),))):
            self.assertRaises(errors.InvalidTie, house.tie, tie)
        for day in (None, True, "1", 0, -1, (1,), House(((),))):
            self.assertRaises(errors.InvalidDay, house.close, day)
        self.assertEqual(all_answers(house), all_answers(before))

    def test_wrong_questions(self):
        house = example()
        for number in (None, True, 3, -1, "0", (0,), 10 ** 39, House(((),))):
            for call in (lambda: house.spot(number), lambda: house.day_range(number, None), lambda: house.clearing(number),
                         lambda: house.cleared(number, None, None)):
                self.assertRaises(errors.InvalidIndex, call)
        for place in (None, True, 2, -1, "0", (0,)):
            for call in (lambda: house.mark(place, None), lambda: house.day_range(0, place),
                         lambda: house.arrears(place, None), lambda: house.in_flight(place, None),
                         lambda: house.cleared(0, place, None)):
                self.assertRaises(errors.InvalidPlace, call)
        for day in (None, True, "1", (0,), False):
            for call in (lambda: house.mark(0, day), lambda: house.arrears(0, day), lambda: house.in_flight(0, day),
                         lambda: house.cleared(0, 0, day), lambda: house.report(day), lambda: house.present(day)):
                self.assertRaises(errors.InvalidDay, call)
        for day in (1, -1, 10 ** 30):
            for call in (lambda: house.report(day), lambda: house.present(day)):
                self.assertRaises(errors.InvalidDay, call)
        for term in (None, ("days",), ("days", -1), ("weeks", 1), ["days", 1], ("days", True)):
            self.assertRaises(errors.InvalidTerm, house.late, term, None)
        for holidays in (None, [2], (2, 2), (3, 2), (True,)):
            self.assertRaises(errors.InvalidHolidays, house.late, ("days", 1), holidays)

    def test_unsteady_houses(self):
        house = House(((), (1,)))
        house.bill((0, 0, 5), 1)
        for place in (0, 1):
            self.assertRaises(errors.Unsteady, house.day_range, 0, place)
        house.tie(("apart", 1, 0, 1, 1, -60, 60))
        self.assertEqual([house.day_range(0, 0), house.day_range(0, 1)], [(0, 0), (None, None)])

    def test_wrong_places(self):
        for kind in (House, StrictHouse):
            for places in (None, (), [], [()], ((5,),), ((5,), ()), ((), (5, 6)), ((), [5]), ((), (True,)), 5, "-", ((), 5)):
                self.assertRaises(errors.InvalidPlaces, kind, places)
                self.assertRaises(errors.InvalidPlaces, replay, places, None)


def owners_of(places, log):
    """For each bound of the book of a log the deed that brings it, by comparing books of its beginnings."""
    changes = clocks.system_of((places, (), ()))[1]
    found = [None] * len(changes)
    for kind in ("entries", "ties"):
        for index in range(len(log)):
            ahead, behind = book_of(places, log[:index]), book_of(places, log[:index + 1])
            if kind == "entries":
                one, other = (places, ahead[1], ()), (places, behind[1], ())
            else:
                one, other = (places, behind[1], ahead[2]), behind
            found += [index] * (len(clocks.system_of(other)[1]) - len(clocks.system_of(one)[1]))
    return found


def has_ring(points, kept, owners):
    """Whether some bad ring of these bounds has just these owners, besides None."""
    def goes_on(first, point, seen, used, total):
        for (i, j, most), owner in kept:
            if i != point:
                continue
            more = used | ({owner} - {None})
            if j == first and total + most < 0 and more == owners:
                return True
            if j > first and j not in seen and goes_on(first, j, seen | {j}, more, total + most):
                return True
        return False

    return any(goes_on(first, first, {first}, set(), 0) for first in range(points))


class Strict(unittest.TestCase):
    def test_deeds_that_may_lie_in_a_closed_day(self):
        seen = {"late": 0, "in time": 0, "refused": 0}
        for seed in range(400):
            rolls = random.Random(seed)
            house = tied_house(rolls, StrictHouse)
            for _ in range(10):
                log, deed = house.log, some_deed(rolls, house)
                told = outcome(lambda: do(house, deed))
                if type(try_deed(replay(house.places, log), deed)) is errors.Contradicted:
                    self.assertEqual(told[1], errors.Contradicted)
                    seen["refused"] += 1
                    continue
                late = self.is_late(house.places, log, deed)
                if late is None:
                    continue
                seen["late" if late else "in time"] += 1
                if late:
                    self.assertEqual(told, ("raises", errors.TooLate, {"closing": len(closed_of(log)) - 1}))
                    self.assertEqual(house.log, log)
                else:
                    self.assertEqual(house.log, log + [deed])
        self.assertGreater(min(seen.values()), 100, seen)

    def is_late(self, places, log, deed):
        """Whether an entry of a deed is ahead of the last closed mark in some world, None if these are too many."""
        closed = closed_of(log)
        if not closed or deed[0] not in ("bill", "pay", "send"):
            return False
        told = Worlds(places, log + [deed])
        if told.found is None:
            return None
        numbers = range(len(book_of(places, log)[1]), len(told.book[1]))
        return any(helper.entry_in(told.book, world, number) < 1440 * (closed[-1] + 1)
                   for world in told.found for number in numbers)

    def test_edges(self):
        house = StrictHouse(((), ()))
        self.assertEqual(house.bill((0, 0, -10 ** 11), 5), 0)
        self.assertEqual(house.pay((1, 0, 5), 5), 0)
        house.close(2)
        for call in (lambda: house.bill((0, 0, 3 * 1440 - 1), 5), lambda: house.pay((1, 0, 10 ** 11), 5),
                     lambda: house.send((0, 0, 2), (0, 0, 9 * 1440), 5)):
            with self.assertRaises(errors.TooLate) as caught:
                call()
            self.assertEqual(caught.exception.closing, 0)
        self.assertEqual(house.bill((0, 0, 3 * 1440), 5), 1)
        # The arriving one comes behind the leaving one, so it needs no bounds of its own.
        self.assertEqual(house.send((0, 0, 3 * 1440), (1, 0, 9), 5), 0)
        house = StrictHouse(((), ()))
        house.close(1)
        house.close(3)
        house.tie(TIE)
        with self.assertRaises(errors.TooLate) as caught:
            house.pay((1, 0, 4 * 1440 - 31), 5)
        self.assertEqual(caught.exception.closing, 1)
        self.assertEqual(house.pay((1, 0, 4 * 1440 - 30), 5), 0)

    def test_other_errors_come_first(self):
        house = StrictHouse(((), ()))
        house.close(0)
        self.assertRaises(errors.InvalidEntry, house.bill, (1, 0, 0), None)
        self.assertRaises(errors.InvalidAmount, house.bill, (0, 0, 0), 0)
        self.assertRaises(errors.InvalidAmount, house.send, (0, 0, 9), (0, 0, 0), 0)
        self.assertRaises(errors.Contradicted, house.send, (0, 0, 9), (0, 0, 0), 1)
        self.assertRaises(errors.TooLate, house.send, (0, 0, 0), (0, 0, 9), 1)
        # Ties and closings are taken, whatever they make of closed days.
        self.assertEqual([house.tie(TIE), house.close(1)], [0, 1])
        self.assertIsInstance(house.twin(), StrictHouse)
        self.assertIs(type(replay(house.places, house.log)), House)


class Replays(unittest.TestCase):
    def test_logs_that_cannot_be_done(self):
        places = ((), ())
        log = [("tie", TIE), ("pay", (1, 0, 20), 3), ("bill", (0, 0, 5), 9), ("tie", ("look", 0, 1, None, -40)), ("close", 0),
               ("send", (0, 0, 5), (1, 0, 70), 4)]
        self.assertEqual(replay(places, log).log, log)
        self.assertEqual(replay(places, []), House(places))
        tried = {True: 0, False: 0}
        for value in helper.mutants(log):
            told = outcome(lambda: replay(places, value))
            right = self.is_log(places, value)
            tried[right] += 1
            if right:
                self.assertEqual(told[1].log, value)
            else:
                self.assertEqual(told[1], errors.InvalidLog, value)
        self.assertGreater(min(tried.values()), 20)

    def is_log(self, places, value):
        """Whether a house can do these deeds one after another."""
        sizes = {"bill": 3, "pay": 3, "send": 4, "tie": 2, "close": 2}
        if type(value) is not list:
            return False
        house = House(places)
        for deed in value:
            if type(deed) is not tuple or not deed or type(deed[0]) is not str or len(deed) != sizes.get(deed[0]):
                return False
            if try_deed(house, deed) is not None:
                return False
        return True

    def test_any_value(self):
        for value in (None, True, 5, "close 1", (), (("close", 1),), [None], [()], ["close"], [("close",)], [["close", 1]],
                      [(["close"], 1)], [({}, 1)], [("close", 1), ("close", 1)], [("close", 2), ("close", 1)], House(((),)),
                      [House(((),))], [(House(((),)), 1)], [("undo",)], [("tie", ("look", 0, 1, 0, 0))], [[]], [("close", 1, 2)],
                      [("bill", (1, 0, 0), 5)], [("bill", (0, 0, 0), 0)], [("send", (0, 0, 5), (0, 0, 4), 1)]):
            self.assertRaises(errors.InvalidLog, replay, ((), ()), value)

    def test_no_trace_of_lateness(self):
        # What a strict house would refuse, a House with this log does.
        log = [("close", 5), ("bill", (0, 0, 5), 1)]
        self.assertEqual(replay(((),), log).log, log)


class Joined(unittest.TestCase):
    def test_two_logs(self):
        house, other = example(), House(((), ()))
        other.pay((1, 0, 5), 1)
        other.send((0, 0, 7), (1, 0, 9), 2)
        other.tie(("look", 0, 2, 0, 9))
        other.tie(("apart", 0, 0, 1, 0, None, 80))
        before = [house.log, other.log]
        told = joined(house, other)
        self.assertEqual(told.log, house.log + [("pay", (1, 0, 5), 1), ("send", (0, 0, 7), (1, 0, 9), 2),
                                                ("tie", ("look", 3, 5, 0, 9)), ("tie", ("apart", 0, 0, 1, 0, None, 80))])
        self.assertEqual(told.book, book_of(told.places, told.log))
        self.assertEqual([told.depth, type(told)], [0, House])
        self.assertEqual([house.log, other.log], before)
        told.undo()
        self.assertEqual([house.log, other.log], before)
        for kind in (House, StrictHouse):
            self.assertEqual(joined(kind(((), ())), other).log, other.log)
            self.assertIs(type(joined(kind(((), ())), kind(((), ())))), House)

    def test_logs_of_houses(self):
        seen = {True: 0, False: 0}
        for seed in range(150):
            rolls = random.Random(seed)
            house = some_house(rolls, rolls.choice([House, StrictHouse]))
            other = rolls.choice([House, StrictHouse])(house.places)
            for _ in range(8):
                deed = some_deed(rolls, other)
                if deed[0] != "close":
                    try_deed(other, deed)
            count = len(house.book[1])
            log = house.log + [moved(deed, count) for deed in other.log]
            told = outcome(lambda: joined(house, other))
            right = clocks.book_bar(book_of(house.places, log)) is None
            seen[right] += 1
            if right:
                self.assertEqual(told[1], replay(house.places, log))
                self.assertEqual(all_answers(told[1]), all_answers(replay(house.places, log)))
            else:
                self.assertEqual(told[1], errors.Contradicted)
                self.assert_deeds(house.places, log, told[2]["deeds"])
        self.assertGreater(min(seen.values()), 20, seen)

    def assert_deeds(self, places, log, deeds):
        self.assertEqual(deeds, sorted(set(deeds)))
        points, told = clocks.system_of(book_of(places, log))
        kept = [(bound, owner) for bound, owner in zip(told, owners_of(places, log)) if owner is None or owner in deeds]
        self.assertTrue(has_ring(points, kept, set(deeds)))

    def test_houses_that_cannot_be_joined(self):
        house, other = example(), House(((), ()))
        self.assertRaises(errors.UnlikePlaces, joined, house, House(((),)))
        self.assertRaises(errors.UnlikePlaces, joined, House(((),)), house)
        self.assertRaises(errors.ClosedAlready, joined, other, house)
        other.tie(("apart", 0, 0, 1, 0, 91, None))
        with self.assertRaises(errors.Contradicted) as caught:
            joined(house, other)
        self.assertEqual(caught.exception.deeds, [0, 5])
        other.close(3)
        self.assertRaises(errors.ClosedAlready, joined, house, other)
        # Never too late: what a strict house would refuse is joined.
        strict = StrictHouse(((), ()))
        strict.close(9)
        late = House(((), ()))
        late.bill((0, 0, 4), 2)
        self.assertEqual(joined(strict, late).log, [("close", 9), ("bill", (0, 0, 4), 2)])


def moved(deed, count):
    if deed[0] == "tie" and deed[1][0] == "look":
        return ("tie", ("look", deed[1][1] + count, deed[1][2] + count, *deed[1][3:]))
    return deed


class Limits(unittest.TestCase):
    """60 deeds that stand and 1,000 asks; 6 places with 4 turns each; 16 bills and payments and 8 closings."""

    def large_house(self, seed):
        rolls = random.Random(seed)
        start = rolls.choice([0, 10 ** 10 - 99, 99 - 10 ** 10])
        places = ((),) + tuple(tuple(start + 10 * place + 3 * k for k in range(4)) for place in range(5))
        house = House(places)
        while len(house) < 60:
            kind = rolls.choice(["bill", "pay", "send", "apart", "look", "close"])
            many = sum(deed[0] in ("bill", "pay") for deed in house)
            place = rolls.randrange(1, 6)
            stretch = rolls.randint(0, 4)
            first = places[place][stretch - 1] if stretch else start - 9
            entry = (place, stretch, 1440 * first + rolls.randint(0, 1439))
            home = (0, 0, 1440 * start + rolls.randint(0, 99999))
            if kind == "bill" and many < 16:
                try_deed(house, ("bill", home, rolls.randint(1, 10 ** 12 - 1)))
            elif kind == "pay" and many < 16:
                try_deed(house, ("pay", entry, rolls.randint(1, 10 ** 12 - 1)))
            elif kind == "send" and len(numbers_of(house, "send")) < 12:
                try_deed(house, ("send", home, entry, rolls.randint(1, 10 ** 12 - 1)))
            elif kind == "close" and len(closed_of(house)) < 8:
                try_deed(house, ("close", max(closed_of(house) + [start]) + rolls.randint(1, 9)))
            elif kind == "apart":
                try_deed(house, ("tie", ("apart", 0, 0, place, stretch, -rolls.randint(0, 600), rolls.randint(0, 600))))
            elif kind == "look" and len(house.book[1]) > 1:
                one, other = rolls.sample(range(len(house.book[1])), 2)
                try_deed(house, ("tie", ("look", one, other, None, rolls.randint(0, 10 ** 6))))
        return house, start

    def test_60_deeds_and_1000_asks(self):
        for seed in range(2):
            rolls = random.Random(seed)
            house, start = self.large_house(seed)
            again = replay(house.places, house.log)
            bills, entries = len(numbers_of(house, "bill")), len(house.book[1])
            for _ in range(90):
                place, day = rolls.randrange(6), start + rolls.randint(-5, 80)
                bill, entry = rolls.randrange(bills), rolls.randrange(entries)
                closed = rolls.choice(closed_of(house))
                for ask in (lambda told: told.arrears(place, day), lambda told: told.in_flight(place, day),
                            lambda told: told.cleared(bill, place, day), lambda told: told.clearing(bill),
                            lambda told: told.spot(entry), lambda told: told.mark(place, day), lambda told: told.rest(),
                            lambda told: told.report(closed), lambda told: told.present(closed),
                            lambda told: told.day_range(entry, place), lambda told: told.late(("months", 1), ())):
                    self.assertEqual(outcome(lambda: ask(house)), outcome(lambda: ask(again)))

    def test_24_bills_and_payments(self):
        house = House(((), ()))
        house.tie(("apart", 0, 0, 1, 0, -10 ** 12 + 1, 10 ** 12 - 1))
        for k in range(12):
            house.bill((0, 0, -1000 * k), 10 ** 12 - 1)
            house.pay((1, 0, 1440 * k - 700), 10 ** 12 - 1)
        # The bill 11 has the first reading; no clock tells when a payment came.
        self.assertEqual([house.cleared(bill, 0, 1) for bill in (0, 11)], ["maybe", "maybe"])
        self.assertEqual(house.late(("days", 10000), ()), ["maybe"] * 12)
        one = 10 ** 12 - 1
        self.assertEqual([house.arrears(0, 1), house.arrears(1, 1), house.arrears(1, 10 ** 10 - 1)],
                         [(0, 12 * one), (-2 * one, 10 * one), (0, 0)])


if __name__ == "__main__":
    unittest.main()
