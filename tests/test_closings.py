"""Points [46] to [49]: closings of small systems beside all worlds of a box, and of large ones."""

import itertools
import random
import unittest

from dueanywhere import bounds
from dueanywhere import closings
from dueanywhere import cuts
from dueanywhere import errors
from tests import helper
from tests.helper import BIG

SYSTEM = (2, ((1, 0, 60), (0, 1, 0)))
NEWS = [("post", (1, 100), 5), ("close", 130), ("post", (1, 90), 7), ("close", 200)]
TWELVE = 10 ** 12 - 1


def known_by(system, news):
    return (system[0], system[1] + tuple(part[1:] for part in news if part[0] == "bound"))


def places_in(news, kind):
    """The places in the news of what is of a kind."""
    return [at for at, part in enumerate(news) if part[0] == kind]


def is_ahead(world, home, news, post, close):
    point, shift = news[post][1]
    return world[point] + shift < world[home] + news[close][1]


def period_of(world, home, news, posting, own=False):
    """The period, or the own period, by the words of point [47]."""
    post = places_in(news, "post")[posting]
    found = places_in(news, "close")
    for number, close in enumerate(found):
        if (own or close > post) and is_ahead(world, home, news, post, close):
            return number
    return len(found)


def is_late(world, home, news, posting):
    own, found = period_of(world, home, news, posting, own=True), places_in(news, "close")
    return own < len(found) and found[own] < places_in(news, "post")[posting]


def sums_of(world, home, news):
    """The booked sums and the open sum."""
    sums = [0] * (len(places_in(news, "close")) + 1)
    for posting, post in enumerate(places_in(news, "post")):
        sums[period_of(world, home, news, posting)] += news[post][2]
    return sums


def answer_of(question, sums):
    return sum(part * booked for part, booked in zip(question, sums, strict=True))


def word_of(truths):
    return "sure" if all(truths) else "maybe" if any(truths) else "never"


def ends_of(told):
    return (min(told), max(told))


def some_news(rolls, system, most=8, reach=3, room=5):
    """News with ascending closings."""
    kinds = [rolls.choice(["post", "post", "close", "bound"]) for _ in range(rolls.randint(0, most))]
    shifts = iter(sorted(rolls.sample(range(-room, room + 1), kinds.count("close"))))
    found = []
    for kind in kinds:
        if kind == "post":
            found.append(("post", (rolls.randrange(system[0]), rolls.randint(-reach, reach)), rolls.randint(-5, 5)))
        elif kind == "close":
            found.append(("close", next(shifts)))
        elif system[0] > 1:
            found.append(("bound", *rolls.sample(range(system[0]), 2), rolls.randint(-1, reach)))
    return found


def asked(seed, many, points=3, reach=3):
    """Tuples (system, home, news, worlds) of boxed systems whose known systems have worlds."""
    rolls = random.Random(seed)
    found = []
    for system in helper.some_systems(seed, many, points, 5, reach):
        system = helper.boxed(system, reach)
        news = some_news(rolls, system)
        told = helper.box_worlds(known_by(system, news), reach)
        if told:
            found.append((system, rolls.randrange(system[0]), news, told))
    return found


class Examples(unittest.TestCase):
    def test_all_of_them(self):
        told = [closings.periods(SYSTEM, 0, NEWS, 0), closings.periods(SYSTEM, 0, NEWS, 1),
                closings.lateness(SYSTEM, 0, NEWS, 1), closings.booked(SYSTEM, 0, NEWS, (0, 20))]
        self.assertEqual(told, [(0, 1), (1, 1), "maybe", [5, 7, 0]])
        told = [closings.report(SYSTEM, 0, NEWS, 0), closings.report(SYSTEM, 0, NEWS, 1),
                closings.answer_range(SYSTEM, 0, NEWS, [1, 1, 0]), closings.answer_range(SYSTEM, 0, NEWS, [1, -1, 0])]
        self.assertEqual(told, [(0, 5), (7, 12), (12, 12), (-12, -2)])
        told = [closings.report_history(SYSTEM, 0, NEWS + [("bound", 1, 0, 20)], 0), closings.cells(SYSTEM, 0, NEWS)]
        self.assertEqual(told, [[(0, 5), (0, 5), (0, 5), (5, 5)], [(0, 0), (0, 1), (1, 1)]])


class AllWorlds(unittest.TestCase):
    def test_periods(self):
        seen = {"sure": 0, "maybe": 0, "never": 0}
        for system, home, news, found in asked(1, 500):
            for posting in range(len(places_in(news, "post"))):
                told = [period_of(world, home, news, posting) for world in found]
                own = [period_of(world, home, news, posting, own=True) for world in found]
                for world, period, other in list(zip(found, told, own))[::5]:
                    self.assertEqual(closings.period_in(system, home, news, posting, world), period)
                    self.assertEqual(closings.own_period_in(system, home, news, posting, world), other)
                ends = closings.periods(system, home, news, posting)
                self.assertEqual(ends, ends_of(told))
                self.assertEqual(sorted(set(told)), list(range(ends[0], ends[1] + 1)))
                word = word_of([is_late(world, home, news, posting) for world in found])
                seen[word] += 1
                self.assertEqual(closings.lateness(system, home, news, posting), word)
        self.assertGreater(min(seen.values()), 15)

    def test_answers(self):
        rolls = random.Random(2)
        for system, home, news, found in asked(3, 400):
            told = [sums_of(world, home, news) for world in found]
            for world, sums in list(zip(found, told))[::5]:
                self.assertEqual(closings.booked(system, home, news, world), sums)
                self.assertEqual(sum(sums), sum(part[2] for part in news if part[0] == "post"))
            for _ in range(2):
                question = [rolls.randint(-3, 3) for _ in told[0]]
                right = {answer_of(question, sums) for sums in told}
                ends = closings.answer_range(system, home, news, question)
                self.assertEqual(ends, ends_of(right))
                pair = closings.answer_worlds(system, home, news, question)
                self.assertIs(type(pair), tuple)
                for end, world in zip(ends, pair, strict=True):
                    self.assertTrue(helper.is_world(known_by(system, news), world))
                    self.assertEqual(answer_of(question, sums_of(world, home, news)), end)
                *cut, rest = closings.cell_parts(system, home, news, question)
                self.assertEqual([part + rest for part in cuts.all_sums(*cut)], sorted(right))

    def test_cells(self):
        rolls = random.Random(4)
        for system, home, news, found in asked(5, 300):
            posts, closes = places_in(news, "post"), places_in(news, "close")
            right = [(a, c) for a, post in enumerate(posts) for c, close in enumerate(closes) if close > post]
            self.assertEqual(closings.cells(system, home, news), right)
            question = [rolls.randint(-3, 3) for _ in range(len(closes) + 1)]
            weights, pairs, inside, outside, rest = closings.cell_parts(system, home, news, question)
            self.assertEqual(weights, [news[posts[a]][2] * (question[c] - question[c + 1]) for a, c in right])
            self.assertEqual(rest, sum(news[post][2] * question[-1] for post in posts))
            on = [[is_ahead(world, home, news, posts[a], closes[c]) for world in found] for a, c in right]
            self.assertEqual(inside, [item for item, told in enumerate(on) if all(told)])
            self.assertEqual(outside, [item for item, told in enumerate(on) if not any(told)])
            brought = []
            for (item, (a, c)), (other, (b, e)) in itertools.permutations(enumerate(right), 2):
                one, two = news[posts[a]][1], news[posts[b]][1]
                gap = max(world[two[0]] + two[1] - world[one[0]] - one[1] for world in found)
                if gap <= news[closes[e]][1] - news[closes[c]][1]:
                    brought.append((item, other))
            self.assertEqual(pairs, sorted(brought))

    def test_reports(self):
        for system, home, news, found in asked(6, 400):
            for closing, close in enumerate(places_in(news, "close")):
                history = []
                for many in range(close + 1, len(news) + 1):
                    told = helper.box_worlds(known_by(system, news[:many]), 3)
                    right = ends_of([sums_of(world, home, news[:many])[closing] for world in told])
                    self.assertEqual(closings.report(system, home, news, closing, many=many), right)
                    self.assertEqual(closings.report(system, home, news[:many], closing), right)
                    history.append(right)
                self.assertEqual(closings.report_history(system, home, news, closing), history)
                self.assertEqual(closings.report(system, home, news, closing, many=None), history[-1])
                for wide, narrow in zip(history, history[1:]):
                    self.assertTrue(wide[0] <= narrow[0] <= narrow[1] <= wide[1])

    def test_what_a_closing_books_stays(self):
        for system, home, news, found in asked(7, 200):
            for close, world in itertools.product(places_in(news, "close"), found[::7]):
                ahead = news[:close + 1]
                told = closings.booked(system, home, ahead, world)
                self.assertEqual(closings.booked(system, home, news, world)[:len(told) - 1], told[:-1])

    def test_what_is_known(self):
        for system, home, news, _ in asked(8, 200):
            for many in range(len(news) + 1):
                right = known_by(system, news[:many])
                self.assertEqual(closings.known(system, home, news, many=many), right)
                self.assertEqual(closings.known(system, home, news[:many]), right)
            self.assertEqual(closings.known(system, home, news, many=None), known_by(system, news))

    def test_systems_without_a_box(self):
        rolls = random.Random(9)
        for system in helper.with_worlds(10, 250, 3, 3, 2):
            news, home = some_news(rolls, system, reach=2, room=4), rolls.randrange(system[0])
            found = helper.box_worlds(known_by(system, news), 14)
            if not found:
                continue
            for posting in range(len(places_in(news, "post"))):
                told = [period_of(world, home, news, posting) for world in found]
                self.assertEqual(closings.periods(system, home, news, posting), ends_of(told))
                word = word_of([is_late(world, home, news, posting) for world in found])
                self.assertEqual(closings.lateness(system, home, news, posting), word)
            told = [sums_of(world, home, news) for world in found]
            question = [rolls.randint(-3, 3) for _ in told[0]]
            self.assertEqual(closings.answer_range(system, home, news, question),
                             ends_of([answer_of(question, sums) for sums in told]))


class Edges(unittest.TestCase):
    def test_no_news(self):
        self.assertEqual(closings.known(SYSTEM, 0, []), SYSTEM)
        self.assertEqual(closings.booked(SYSTEM, 0, [], (0, 20)), [0])
        self.assertEqual(closings.answer_range(SYSTEM, 0, [], [7]), (0, 0))
        self.assertEqual(closings.cells(SYSTEM, 0, []), [])
        self.assertEqual(closings.cell_parts(SYSTEM, 0, [], [7]), ([], [], [], [], 0))
        for world in closings.answer_worlds(SYSTEM, 0, [], [7]):
            self.assertTrue(helper.is_world(SYSTEM, world))

    def test_news_without_closings(self):
        news = [("post", (1, 5), 4), ("post", (0, 5), -1)]
        self.assertEqual(closings.periods(SYSTEM, 0, news, 0), (0, 0))
        self.assertEqual(closings.period_in(SYSTEM, 0, news, 1, (0, 20)), 0)
        self.assertEqual(closings.lateness(SYSTEM, 0, news, 0), "never")
        self.assertEqual(closings.answer_range(SYSTEM, 0, news, [10]), (30, 30))
        self.assertEqual(closings.cell_parts(SYSTEM, 0, news, [10]), ([], [], [], [], 30))
        with self.assertRaises(errors.InvalidIndex):
            closings.report(SYSTEM, 0, news, 0)

    def test_postings_behind_the_last_closing(self):
        news = [("close", 130), ("close", 200), ("post", (1, 90), 7)]
        self.assertEqual(closings.periods(SYSTEM, 0, news, 0), (2, 2))
        self.assertEqual(closings.own_period_in(SYSTEM, 0, news, 0, (0, 39)), 0)
        self.assertEqual(closings.own_period_in(SYSTEM, 0, news, 0, (0, 40)), 1)
        self.assertEqual(closings.lateness(SYSTEM, 0, news, 0), "sure")
        self.assertEqual(closings.report(SYSTEM, 0, news, 1), (0, 0))
        self.assertEqual(closings.booked(SYSTEM, 0, news, (0, 20)), [0, 0, 7])
        self.assertEqual(closings.cells(SYSTEM, 0, news), [])

    def test_a_posting_at_the_mark_is_not_ahead_of_it(self):
        for shift, period in ((129, 0), (130, 1), (199, 1), (200, 2)):
            news = [("post", (0, shift), 5), ("close", 130), ("close", 200)]
            self.assertEqual(closings.periods(SYSTEM, 0, news, 0), (period, period))
            turned = [("close", 130), ("post", (0, shift), 5), ("close", 200)]
            self.assertEqual(closings.lateness(SYSTEM, 0, turned, 0), "sure" if period == 0 else "never")
            self.assertEqual(closings.periods(SYSTEM, 0, turned, 0), (max(1, period),) * 2)

    def test_bounds_that_make_a_period_sure(self):
        news = NEWS + [("bound", 1, 0, 29)]
        self.assertEqual(closings.periods(SYSTEM, 0, news, 0), (0, 0))
        self.assertEqual(closings.lateness(SYSTEM, 0, news, 1), "sure")
        news = NEWS + [("bound", 0, 1, -40)]
        self.assertEqual(closings.periods(SYSTEM, 0, news, 0), (1, 1))
        self.assertEqual(closings.lateness(SYSTEM, 0, news, 1), "never")
        self.assertEqual(closings.report_history(SYSTEM, 0, news, 1), [(7, 12), (12, 12)])

    def test_homes_that_are_not_the_point_0(self):
        news = [("post", (0, 100), 5), ("close", 60), ("post", (1, 59), 3), ("post", (1, 60), 4)]
        self.assertEqual(closings.periods(SYSTEM, 1, news, 0), (0, 1))
        self.assertEqual([closings.lateness(SYSTEM, 1, news, posting) for posting in (1, 2)], ["sure", "never"])
        self.assertEqual(closings.booked(SYSTEM, 1, news, (0, 41)), [5, 7])
        self.assertEqual(closings.booked(SYSTEM, 1, news, (0, 40)), [0, 12])

    def test_how_many_news(self):
        for many in (-1, 5, True, "2", (2,), [2], 10 ** 39):
            with self.assertRaises(errors.InvalidNumber):
                closings.known(SYSTEM, 0, NEWS, many=many)
        for closing, least in ((0, 2), (1, 4)):
            for many in range(-1, 7):
                if least <= many <= 4:
                    self.assertIs(type(closings.report(SYSTEM, 0, NEWS, closing, many=many)), tuple)
                    continue
                with self.assertRaises(errors.InvalidNumber):
                    closings.report(SYSTEM, 0, NEWS, closing, many=many)
            with self.assertRaises(errors.InvalidNumber):
                closings.report(SYSTEM, 0, NEWS, closing, many=True)

    def test_many_by_name_alone(self):
        with self.assertRaises(TypeError):
            closings.known(SYSTEM, 0, NEWS, 2)
        with self.assertRaises(TypeError):
            closings.report(SYSTEM, 0, NEWS, 0, 2)

    def test_news_that_leave_no_world(self):
        news = NEWS + [("bound", 0, 1, -30), ("bound", 1, 0, 20)]
        known = closings.known(SYSTEM, 0, news)
        self.assertEqual(known, (2, SYSTEM[1] + ((0, 1, -30), (1, 0, 20))))
        for call in (lambda: closings.cells(SYSTEM, 0, news), lambda: closings.periods(SYSTEM, 0, news, 0),
                     lambda: closings.lateness(SYSTEM, 0, news, 0), lambda: closings.report(SYSTEM, 0, news, 1),
                     lambda: closings.report_history(SYSTEM, 0, news, 1),
                     lambda: closings.answer_range(SYSTEM, 0, news, [1, 2, 3]),
                     lambda: closings.answer_worlds(SYSTEM, 0, news, [1, 2, 3]),
                     lambda: closings.cell_parts(SYSTEM, 0, news, [1, 2, 3])):
            with self.assertRaises(errors.NoWorld) as caught:
                call()
            self.assertEqual(sorted(caught.exception.ring), [2, 3])
        # What was known by fewer news is told all the same.
        self.assertEqual(closings.report(SYSTEM, 0, news, 0, many=5), (0, 0))
        self.assertEqual(closings.report(SYSTEM, 0, news, 0, many=4), (0, 5))
        for call in (lambda: closings.booked(SYSTEM, 0, news, (0, 25)),
                     lambda: closings.period_in(SYSTEM, 0, news, 0, (0, 25))):
            with self.assertRaises(errors.InvalidWorld):
                call()
        with self.assertRaises(errors.NoWorld) as caught:
            closings.report(SYSTEM, 0, [("bound", 0, 1, -61)] + news, 0, many=3)
        self.assertTrue(bounds.is_bad_ring(known_by(SYSTEM, [("bound", 0, 1, -61)]), caught.exception.ring))

    def test_worlds_of_the_known_system(self):
        news = NEWS + [("bound", 1, 0, 20)]
        self.assertEqual(closings.booked(SYSTEM, 0, news, (0, 20)), [5, 7, 0])
        for call in (lambda: closings.booked(SYSTEM, 0, news, (0, 21)),
                     lambda: closings.period_in(SYSTEM, 0, news, 0, (0, 21)),
                     lambda: closings.own_period_in(SYSTEM, 0, news, 1, (0, 21))):
            with self.assertRaises(errors.InvalidWorld):
                call()

    def test_wrong_news_and_questions(self):
        for news in (None, tuple(NEWS), [[*NEWS[0]]], [("post", (1, 100))], [("post", (2, 100), 5)], [("post", (1, 1), True)],
                     [("post", [1, 1], 5)], [("post", (1, 1), 5, 5)], [("bound", 1, 1, 5)], [("bound", 1, 0)],
                     [("bound", (1, 0, 5))], [("bound", 1, 0, None)], [("bound", 1, 2, 5)], [("close", None)],
                     [("close", 5), ("close", 5)], [("close", 5), ("post", (0, 0), 1), ("close", 4)], [("close", 5, 6)],
                     [("close",)], [("shut", 5)], ["close"], [None], [()], [(None, 5)], [(["close"], 5)], [("close", False)]):
            for call in (lambda: closings.known(SYSTEM, 0, news), lambda: closings.report(SYSTEM, 0, news, None),
                         lambda: closings.booked(SYSTEM, 0, news, None)):
                with self.assertRaises(errors.InvalidNews, msg=news):
                    call()
        for question in (None, [1, 2], [1, 2, 3, 4], (1, 2, 3), [1, 2, True], [1, 2, None], [[1], 2, 3], 3, "123"):
            for routine in (closings.answer_range, closings.answer_worlds, closings.cell_parts):
                with self.assertRaises(errors.InvalidQuestion):
                    routine(SYSTEM, 0, NEWS, question)


class Limits(unittest.TestCase):
    """60 news with 16 closings and 24 postings, 200 cells, numbers of 12 digits, questions of 30 digits."""

    def setUp(self):
        self.told = []
        for seed in range(5):
            rolls = random.Random(seed)
            size = rolls.choice([30, TWELVE // 5])
            world = (0,) + tuple(rolls.randint(-size, size) for _ in range(23))
            pairs = [(i, (i + 1) % 24) for i in range(24)] + [tuple(rolls.sample(range(24), 2)) for _ in range(96)]
            system = (24, tuple((i, j, world[i] - world[j] + rolls.randint(0, size)) for i, j in pairs))
            posts = [("post", (point, rolls.randint(-size, size) - world[point]), rolls.randint(-TWELVE, TWELVE))
                     for point in range(24)]
            closes = [("close", shift) for shift in sorted(rolls.sample(range(-size, size), 16))]
            told = []
            for _ in range(20):
                i, j = rolls.sample(range(24), 2)
                told.append(("bound", i, j, world[i] - world[j] + rolls.randint(0, size)))
            news = posts[:9]
            for k, close in enumerate(closes):
                news += [close] + posts[9 + k:10 + k] + told[k:k + 1]
            self.told.append((system, world, news + told[16:], [rolls.randint(-BIG, BIG) for _ in range(17)]))

    def test_answers(self):
        for system, world, news, question in self.told:
            self.assertEqual(len(news), 60)
            self.assertGreater(len(closings.cells(system, 0, news)), 200)
            low, high = closings.answer_range(system, 0, news, question)
            self.assertTrue(low <= answer_of(question, sums_of(world, 0, news)) <= high)
            for end, found in zip((low, high), closings.answer_worlds(system, 0, news, question)):
                self.assertTrue(helper.is_world(known_by(system, news), found))
                self.assertEqual(answer_of(question, closings.booked(system, 0, news, found)), end)
            *cut, rest = closings.cell_parts(system, 0, news, question)
            self.assertIs(cuts.shows_least(*cut, low - rest, cuts.floor_carry(*cut)), True)
            self.assertIs(cuts.shows_greatest(*cut, high - rest, cuts.top_carry(*cut)), True)

    def test_reports(self):
        for system, world, news, _ in self.told:
            for closing, close in list(enumerate(places_in(news, "close")))[::3]:
                history = closings.report_history(system, 0, news, closing)
                self.assertEqual(len(history), len(news) - close)
                self.assertEqual(history[-1], closings.report(system, 0, news, closing))
                self.assertEqual(history[0], closings.report(system, 0, news, closing, many=close + 1))
                here = sums_of(world, 0, news)[closing]
                for wide, narrow in zip(history, history[1:]):
                    self.assertTrue(wide[0] <= narrow[0] <= here <= narrow[1] <= wide[1])

    def test_periods(self):
        for system, world, news, _ in self.told:
            for posting in range(24):
                first, last = closings.periods(system, 0, news, posting)
                here = period_of(world, 0, news, posting)
                self.assertTrue(first <= here <= last)
                self.assertEqual(closings.period_in(system, 0, news, posting, world), here)
                late = is_late(world, 0, news, posting)
                self.assertIn(closings.lateness(system, 0, news, posting), ("sure" if late else "never", "maybe"))


if __name__ == "__main__":
    unittest.main()
