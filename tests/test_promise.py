"""Points [1] and [5]: what is promised over the whole program, and what its modules say of the same thing."""

import importlib
import inspect
import random
import unittest

from dueanywhere import bounds
from dueanywhere import charges
from dueanywhere import clocks
from dueanywhere import closings
from dueanywhere import cuts
from dueanywhere import days
from dueanywhere import errors
from dueanywhere import looks
from dueanywhere import money
from dueanywhere import orders
from dueanywhere import pasts
from dueanywhere import prices
from dueanywhere import worlds
from dueanywhere.console import Console
from dueanywhere.house import House
from dueanywhere.house import joined
from dueanywhere.house import replay
from dueanywhere.words import read_log
from dueanywhere.words import write_log
from dueanywhere.words import write_places
from tests import helper
from tests.test_house import all_answers
from tests.test_house import some_house

INTERFACE = {
    "bounds": "is_system plus without loosened bad_ring is_bad_ring greatest_gap chain_for shows_most deciding table groups "
              "idle needed slack slack_ring shows_slack are_alike parting",
    "worlds": "is_world first_broken some_world lowest highest world_with lesser greater moves_between walk count_worlds "
              "worlds near nearest shows_far",
    "orders": "gap is_sure is_possible claimed joint shows_apart fewest_bounds first_chain line_in is_line line_world lines "
              "always_before line_steps sum_steps",
    "clocks": "is_places is_book is_entry is_tie points_of system_of spot_of mark_of with_entry with_tie book_bar moment apart",
    "days": "steady_bar day_range day_world date day_of weekday is_open open_days due_day due_mark",
    "cuts": "clash is_clash is_closed narrowest widest closed_sets least_sum greatest_sum least_sets greatest_sets all_sums "
            "floor_carry top_carry floor_of top_of shows_least shows_greatest least_rate",
    "pasts": "past_items past_in sure_past widest_past pasts is_past past_bar past_world",
    "money": "paid arrears arrears_parts cleared clearing clearing_in late shares shares_in in_flight",
    "prices": "stage_range staging_in is_staging staging_world stagings stage_parts totals price_totals cheapest_staging "
              "dearest_staging between",
    "charges": "total least_total best_world best_system is_best better_move balance balance_tells least_with rising_range "
               "rising_worlds",
    "closings": "known period_in own_period_in periods lateness booked answer_range answer_worlds report report_history cells "
                "cell_parts",
    "looks": "with_looks agree distrusted distrust_tree shows_distrust answers with_answer open_answers settles doubt is_doubt "
             "cheapest forced_by idle_looks",
    "house": "House StrictHouse replay joined",
    "words": "write_places write_deed write_log write_term read_places read_deed read_log read_term",
    "console": "Console",
}


def some_spot(rolls, system, reach=3):
    return (rolls.randrange(system[0]), rolls.randint(-reach, reach))


def some_money(rolls, system, most):
    return [(some_spot(rolls, system), rolls.randint(1, 4)) for _ in range(rolls.randint(0, most))]


def cases(seed, many, points=4):
    """Tuples (rolls, system) of systems with worlds, boxed and not."""
    rolls = random.Random(seed)
    found = []
    for system in helper.some_systems(seed, many, points, 6, 4):
        system = helper.boxed(system, 5) if rolls.random() < 0.6 else system
        if bounds.bad_ring(system) is None:
            found.append((rolls, system))
    return found


class Interface(unittest.TestCase):
    def test_each_name_is_defined_in_its_module(self):
        for name, told in INTERFACE.items():
            module = importlib.import_module(f"dueanywhere.{name}")
            for part in told.split():
                self.assertEqual(getattr(module, part).__module__, module.__name__, part)
                self.assertTrue(inspect.isfunction(getattr(module, part)) or inspect.isclass(getattr(module, part)))


class Differences(unittest.TestCase):
    """(a): what is said of the difference of two spots."""

    def test_systems_have_a_world_or_a_bad_ring(self):
        seen = {True: 0, False: 0}
        for system in helper.some_systems(1, 300, 4, 8, 4):
            ring = bounds.bad_ring(system)
            seen[ring is None] += 1
            if ring is None:
                self.assertTrue(helper.is_world(system, worlds.some_world(system)))
            else:
                self.assertTrue(helper.is_bad_ring(system, ring))
                with self.assertRaises(errors.NoWorld):
                    worlds.some_world(system)
        self.assertGreater(min(seen.values()), 50)

    def test_ends_of_gaps(self):
        for rolls, system in cases(2, 200):
            one, other = some_spot(rolls, system), some_spot(rolls, system)
            least, greatest = orders.gap(system, one, other)
            self.assertEqual(looks.answers(system, one, other), (least, greatest))
            for delay in range(-12, 13):
                comes = (least is None or least <= delay) and (greatest is None or delay <= greatest)
                self.assertIs(charges.least_with(system, [], one, other, delay) is not None, comes)
                claims = [(one, other, -delay), (other, one, delay)]
                self.assertIs(orders.joint(system, claims)[0] == "world", comes)
                if one[0] != other[0]:
                    difference = delay + one[1] - other[1]
                    told = [lambda: worlds.world_with(system, other[0], one[0], difference),
                            lambda: looks.with_answer(system, one, other, delay)]
                    for call in told:
                        if comes:
                            call()
                        else:
                            self.assertRaises(errors.InvalidNumber, call)

    def test_looks_and_claims(self):
        for rolls, system in cases(3, 150):
            told = []
            for _ in range(rolls.randint(0, 4) if system[0] > 1 else 0):
                first, second = [(point, rolls.randint(-2, 2)) for point in rolls.sample(range(system[0]), 2)]
                low = rolls.randint(-4, 4)
                told.append((first, second, low, low + rolls.randint(0, 2)))
            claims = [claim for first, second, least, most in told
                      for claim in ((second, first, most), (first, second, -least))]
            full = looks.with_looks(system, told)
            self.assertEqual(full, orders.claimed(system, claims))
            self.assertIs(looks.agree(system, told), bounds.bad_ring(full) is None)
            self.assertIs(looks.agree(system, told), looks.distrusted(system, told) == [])
            if looks.agree(system, told):
                idle = looks.idle_looks(system, told)
                for look in range(len(told)):
                    others = looks.with_looks(system, told[:look] + told[look + 1:])
                    self.assertIs(bounds.are_alike(others, full), look in idle)


class Sums(unittest.TestCase):
    """(b), (c) and (e): sums over what is ahead of spots, told by pasts, money, prices and closings."""

    def test_signed_sums_have_a_set_with_a_world_and_a_carry(self):
        for rolls, system in cases(11, 200):
            spots = [some_spot(rolls, system) for _ in range(rolls.randint(0, 5))]
            at, weights = some_spot(rolls, system), [rolls.randint(-5, 5) for _ in spots]
            cut = (weights, *pasts.past_items(system, spots, at))
            for end, past in ((cuts.least_sum(*cut), cuts.least_sets(*cut)[0]),
                              (cuts.greatest_sum(*cut), cuts.greatest_sets(*cut)[1])):
                world = pasts.past_world(system, spots, at, past)
                self.assertEqual(sum(weights[index] for index in pasts.past_in(system, world, spots, at)), end)
            self.assertIs(cuts.shows_least(*cut, cuts.least_sum(*cut), cuts.floor_carry(*cut)), True)
            self.assertIs(cuts.shows_greatest(*cut, cuts.greatest_sum(*cut), cuts.top_carry(*cut)), True)

    def test_one_sum_told_by_four_modules(self):
        for rolls, system in cases(12, 250):
            payments, at = some_money(rolls, system, 5), some_spot(rolls, system)
            spots, amounts = [spot for spot, _ in payments], [amount for _, amount in payments]
            told = money.paid(system, payments, at)
            cut = (amounts, *pasts.past_items(system, spots, at))
            self.assertEqual(told, (cuts.least_sum(*cut), cuts.greatest_sum(*cut)))
            # With at as the one mark, a spot ahead of it has the stage 0.
            self.assertEqual(told, prices.price_totals(system, payments, [at], [1, 0]))
            news = [("post", spot, amount) for spot, amount in payments] + [("close", at[1])]
            self.assertEqual(told, closings.report(system, at[0], news, 0))
            self.assertEqual(told, closings.answer_range(system, at[0], news, [1, 0]))
            least, greatest = money.arrears(system, [], payments, at)
            self.assertEqual(told, (-greatest, -least))
            # The sum of all tariffs is least where each spot is least, but for spots that others bring along.
            tariffs = [(spot, 0, ((0, amount),)) for spot, amount in payments]
            high = charges.rising_range(system, at, tariffs)[1]
            self.assertGreaterEqual(high, sum(amounts) - told[0])

    def test_sums_between_two_spots_of_one_point(self):
        for rolls, system in cases(13, 200):
            spots = [some_spot(rolls, system) for _ in range(rolls.randint(0, 4))]
            weights, first = [rolls.randint(-5, 5) for _ in spots], some_spot(rolls, system)
            last = (first[0], first[1] + rolls.randint(1, 4))
            costs = [[0, weight, 0] for weight in weights]
            told = prices.between(system, spots, weights, first, last)
            self.assertEqual(told, prices.totals(system, spots, [first, last], costs))
            news = [("post", spot, weight) for spot, weight in zip(spots, weights)]
            news += [("close", first[1]), ("close", last[1])]
            self.assertEqual(told, closings.answer_range(system, first[0], news, [0, 1, 0]))

    def test_cleared_and_clearings(self):
        for rolls, system in cases(14, 250):
            bills, payments, at = some_money(rolls, system, 3), some_money(rolls, system, 4), some_spot(rolls, system)
            for index in range(len(bills)):
                word = money.cleared(system, bills, payments, index, at)
                ends = money.clearing(system, bills, payments, index, at)
                if ends is None:
                    self.assertEqual(word, "never")
                else:
                    least, greatest = ends
                    self.assertIs(word == "sure", greatest is not None and greatest < 0)
                    self.assertIs(word == "never", least is not None and least >= 0)
                late = money.late(system, bills, payments, [at] * len(bills))[index]
                self.assertEqual(late, {"sure": "never", "never": "sure"}.get(word, "maybe"))

    def test_shares_add_up(self):
        for rolls, system in cases(15, 150):
            bills, payments = some_money(rolls, system, 3), some_money(rolls, system, 4)
            world = worlds.some_world(system)
            rows = money.shares_in(system, world, bills, payments)
            covered = min(sum(amount for _, amount in bills), sum(amount for _, amount in payments))
            self.assertEqual(sum(map(sum, rows)), covered)
            for payment, row in enumerate(rows):
                for index, share in enumerate(row):
                    self.assertIn(share, money.shares(system, bills, payments, payment, index))

    def test_transfers_are_arrears(self):
        # What has left and not arrived is what leavings less arrivings make.
        for rolls, system in cases(16, 200):
            transfers = []
            for _ in range(rolls.randint(0, 4)):
                leaving, arriving = some_spot(rolls, system), some_spot(rolls, system, 9)
                if orders.is_sure(system, (leaving, arriving, 0)):
                    transfers.append((leaving, arriving, rolls.randint(1, 4)))
            at = some_spot(rolls, system)
            left = [(leaving, amount) for leaving, _, amount in transfers]
            come = [(arriving, amount) for _, arriving, amount in transfers]
            self.assertEqual(money.in_flight(system, transfers, at), money.arrears(system, left, come, at))


class Best(unittest.TestCase):
    """(d): least totals, shown by a world and a balance."""

    def test_worlds_and_balances_meet(self):
        for rolls, system in cases(21, 200):
            told = [(some_spot(rolls, system), some_spot(rolls, system), rolls.randint(-4, 4), rolls.randint(0, 3),
                     rolls.randint(0, 3)) for _ in range(rolls.randint(0, 5))]
            least = charges.least_total(system, told)
            world = charges.best_world(system, told)
            self.assertEqual(charges.total(system, told, world), least)
            self.assertEqual(charges.balance_tells(system, told, charges.balance(system, told)), least)
            best = charges.best_system(system, told)
            self.assertIs(worlds.is_world(best, world), True)
            start = worlds.some_world(system)
            while charges.better_move(system, told, start) is not None:
                points, way = charges.better_move(system, told, start)
                start = tuple(moment + way if point in points else moment for point, moment in enumerate(start))
                self.assertIs(worlds.is_world(system, start), True)
            self.assertEqual(charges.total(system, told, start), least)
            self.assertIs(worlds.is_world(best, start), True)


class Quarrels(unittest.TestCase):
    """(f): looks settle a quarrel, or two worlds a move apart show that they do not."""

    def test_settled_or_doubted(self):
        for rolls, system in cases(31, 200):
            one, other = some_spot(rolls, system), some_spot(rolls, system)
            couples = [(some_spot(rolls, system), some_spot(rolls, system)) for _ in range(rolls.randint(0, 3))]
            told = looks.doubt(system, couples, one, other)
            self.assertIs(looks.settles(system, couples, one, other), told is None)
            sure = orders.is_sure(system, (one, other, 0)) or not orders.is_possible(system, (one, other, 0))
            self.assertIs(looks.settles(system, [], one, other), sure)
            if told is not None:
                self.assertIs(looks.is_doubt(system, couples, one, other, told), True)
                world, (points, way) = told
                there = tuple(moment + way if point in points else moment for point, moment in enumerate(world))
                self.assertEqual(worlds.moves_between(system, world, there), 1)
            for first, second in couples:
                if first[0] != second[0]:
                    open_ends = looks.open_answers(system, first, second, one, other)
                    self.assertIs(looks.settles(system, [(first, second)], one, other), open_ends is None)
            offers = [couple + (1,) for couple in couples]
            cheapest = looks.cheapest(system, offers, one, other)
            self.assertIs(cheapest is None, told is not None)
            if cheapest is not None:
                self.assertIs(looks.settles(system, [couples[k] for k in cheapest[1]], one, other), True)


class Houses(unittest.TestCase):
    """(g): a house answers as its log, and as the modules that it speaks of."""

    def test_as_the_modules(self):
        for seed in range(80):
            rolls = random.Random(seed)
            house = some_house(rolls, many=10)
            book, system = house.book, house.system()
            self.assertEqual(system, clocks.system_of(book))
            self.assertIsNone(clocks.book_bar(book))
            told = [deed for deed in house if deed[0] == "bill"]
            order = sorted(range(len(told)), key=lambda number: (told[number][1][2], number))
            bills = [((0, told[number][1][2]), told[number][2]) for number in order]
            numbers = {"pay": [], "send": []}
            count = 0
            for deed in house:
                if deed[0] in numbers:
                    numbers[deed[0]].append((count, deed[-1]))
                count += {"bill": 1, "pay": 1, "send": 2}.get(deed[0], 0)
            payments = [(clocks.spot_of(book, number), amount) for number, amount in numbers["pay"]]
            transfers = [(clocks.spot_of(book, number), clocks.spot_of(book, number + 1), amount)
                         for number, amount in numbers["send"]]
            for place in range(len(house.places)):
                mark = clocks.mark_of(book, place, 1)
                self.assertEqual(house.mark(place, 1), mark)
                self.assertEqual(house.arrears(place, 1), money.arrears(system, bills, payments, mark))
                self.assertEqual(house.in_flight(place, 1), money.in_flight(system, transfers, mark))
                for index, number in enumerate(order):
                    word = money.cleared(system, bills, payments, index, mark)
                    self.assertEqual(house.cleared(number, place, 1), word)
            dues = [(0, 1440 * (days.due_day(spot[1] // 1440, ("open", 1), (2,)) + 1)) for spot, _ in bills]
            words = money.late(system, bills, payments, dues)
            self.assertEqual([house.late(("open", 1), (2,))[number] for number in order], words)
            for index, number in enumerate(order):
                told = money.clearing(system, bills, payments, index, bills[index][0])
                self.assertEqual(house.clearing(number), told)

    def test_there_and_back(self):
        for seed in range(60):
            house = some_house(random.Random(seed), many=10)
            text = write_log(house.log)
            again = replay(house.places, read_log(text))
            self.assertEqual(again, house)
            self.assertEqual(all_answers(again), all_answers(house))
            self.assertEqual(joined(House(house.places), replay(house.places, [])), House(house.places))
            console = Console()
            console.execute("places " + write_places(house.places))
            for command in text.split(" then ") if house.log else []:
                console.execute(command)
            self.assertEqual(console.execute("log"), text)


if __name__ == "__main__":
    unittest.main()
