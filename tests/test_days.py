"""Point [22]: steady books, local days and worlds with them; the marks of due days."""

import random
import unittest

from dueanywhere import clocks
from dueanywhere import days
from dueanywhere import errors
from tests import helper

PAIR = ((), ())
EXAMPLE = (PAIR, ((0, 0, 100), (1, 0, 20), (1, 0, 60)), (("apart", 0, 0, 1, 0, 30, 90),))
TURN = ((), (100,))
DAY_99, DAY_100 = 142560, 144000


def held(least, most, *entries):
    """A book whose second place has a turn, its new nought being so many minutes behind the old one."""
    return (TURN, entries, (("apart", 1, 0, 1, 1, least, most),))


class Steady(unittest.TestCase):
    def test_the_examples(self):
        self.assertEqual(days.steady_bar((TURN, (), ())), (1, 100))
        self.assertIsNone(days.steady_bar((TURN, (), (("apart", 1, 0, 1, 1, -60, 60),))))
        self.assertEqual([days.day_range(EXAMPLE, 1, 0), days.day_range(EXAMPLE, 0, 1)], [(0, 0), (0, 0)])
        self.assertEqual(days.due_mark(EXAMPLE, 1, ("days", 3), ()), (1, 5760))

    def test_a_clock_put_on_by_a_whole_day(self):
        self.assertIsNone(days.steady_bar(held(-1439, 0)))
        self.assertEqual(days.steady_bar(held(-1440, 0)), (1, 100))
        self.assertEqual(days.steady_bar(held(-1440, -1440)), (1, 100))
        self.assertEqual(days.steady_bar(held(-9999, 0)), (1, 100))
        self.assertEqual(days.steady_bar(held(None, 0)), (1, 100))
        self.assertIsNone(days.steady_bar(held(0, None)))

    def test_an_entry_on_the_day_ahead_of_the_turn_holds_the_marks_apart(self):
        for entry in ((1, 1, DAY_99), (1, 1, DAY_100 - 1), (1, 0, DAY_99), (1, 0, DAY_100 - 1)):
            self.assertIsNone(days.steady_bar((TURN, (entry,), ())), entry)
        for entry in ((1, 1, DAY_100), (1, 0, DAY_99 - 1), (0, 0, DAY_99)):
            self.assertEqual(days.steady_bar((TURN, (entry,), ())), (1, 100), entry)

    def test_the_first_place_and_its_first_turn(self):
        places = ((), (7, 10, 30), (3, 5))
        self.assertEqual(days.steady_bar((places, (), ())), (1, 7))
        early = (("apart", 1, 0, 1, 1, 0, 0),)
        self.assertEqual(days.steady_bar((places, (), early)), (1, 10))
        self.assertEqual(days.steady_bar((places, (), early + (("apart", 1, 1, 1, 2, 0, 0),))), (1, 30))
        later = early + (("apart", 1, 1, 1, 2, -1439, None), ("apart", 1, 3, 1, 2, None, 1439))
        self.assertEqual(days.steady_bar((places, (), later)), (2, 3))
        self.assertEqual(days.steady_bar((places, ((2, 0, 3000),), later)), (2, 5))
        self.assertIsNone(days.steady_bar((places, ((2, 0, 3000), (2, 2, 6000)), later)))
        self.assertIsNone(days.steady_bar((PAIR, (), ())))

    def test_books_without_worlds_are_steady(self):
        self.assertIsNone(days.steady_bar(helper.BROKEN_BOOK))
        self.assertIsNone(days.steady_bar(helper.VOID_BOOK))
        void = (TURN, ((1, 0, 5), (1, 0, 9)), (("look", 0, 1, 5, 5),))
        self.assertIsNone(days.steady_bar(void))
        self.assertEqual(days.steady_bar((TURN, void[1], ())), (1, 100))
        ring = (TURN, (), (("apart", 0, 0, 1, 0, 5, None), ("apart", 0, 0, 1, 0, None, 4)))
        self.assertIsNone(days.steady_bar(ring))

    def test_by_all_worlds(self):
        seen = {True: 0, False: 0}
        for book, _ in helper.tight_books(41, 250):
            found = helper.few_worlds(clocks.system_of(book), 500)
            if found:
                right = first_unsteady(book, found)
                self.assertEqual(days.steady_bar(book), right)
                seen[right is None] += 1
        self.assertGreater(min(seen.values()), 30)


def first_unsteady(book, found):
    """The first place and turn at which a mark is not later than that of the day ahead, in one of the worlds."""
    for place, turns in enumerate(book[0]):
        for turn in turns:
            for told in found:
                if helper.mark_in(book, told, place, turn) <= helper.mark_in(book, told, place, turn - 1):
                    return (place, turn)
    return None


class LocalDays(unittest.TestCase):
    def test_at_its_own_place_it_is_the_own_day(self):
        for entry in ((1, 0, DAY_100 - 1), (1, 0, -1), (1, 0, 0), (1, 1, DAY_99), (1, 1, DAY_100 - 1), (1, 1, DAY_100),
                      (1, 1, 10 ** 12), (0, 0, -10 ** 12)):
            book = held(-60, 60, entry)
            day = entry[2] // 1440
            self.assertEqual(days.day_range(book, 0, entry[0]), (day, day), entry)
            self.assertTrue(is_on_day(book, days.day_world(book, 0, entry[0], day), 0, entry[0], day))
            for other in (day - 1, day + 1, day - 10 ** 10):
                self.assertIsNone(days.day_world(book, 0, entry[0], other))

    def test_another_clock_minutes_ahead_or_behind(self):
        for least, most, right in ((-5, 5, (-1, 0)), (0, 5, (-1, 0)), (-5, 0, (0, 0)), (1, 5, (-1, -1)),
                                   (-1440, 0, (0, 1)), (-1439, 0, (0, 0)), (None, 0, (0, None)), (0, None, (None, 0)),
                                   (-5000, 5000, (-4, 3))):
            book = (PAIR, ((0, 0, 0),), (("apart", 0, 0, 1, 0, least, most),))
            self.assertEqual(days.day_range(book, 0, 1), right)
        book = (PAIR, ((0, 0, 0),), ())
        self.assertEqual(days.day_range(book, 0, 1), (None, None))
        for day in (-10 ** 10, 0, 10 ** 10):
            self.assertTrue(is_on_day(book, days.day_world(book, 0, 1, day), 0, 1, day))

    def test_a_day_that_a_turn_makes_short_or_long(self):
        # The day 99 of the second place lasts 2,440 minutes, 1,000 more than others.
        entries = tuple((0, 0, when) for when in (DAY_99 - 1, DAY_99, DAY_99 + 1440, DAY_99 + 2439, DAY_99 + 2440))
        book = (TURN, entries, (("apart", 0, 0, 1, 0, 0, 0), ("apart", 1, 0, 1, 1, 1000, 1000)))
        told = [days.day_range(book, number, 1) for number in range(5)]
        self.assertEqual(told, [(98, 98), (99, 99), (99, 99), (99, 99), (100, 100)])
        # And here a minute.
        entries = tuple((0, 0, when) for when in (DAY_99 - 1, DAY_99, DAY_99 + 1, DAY_99 + 1440, DAY_99 + 1441))
        book = (TURN, entries, (("apart", 0, 0, 1, 0, 0, 0), ("apart", 1, 0, 1, 1, -1439, -1439)))
        told = [days.day_range(book, number, 1) for number in range(5)]
        self.assertEqual(told, [(98, 98), (99, 99), (100, 100), (100, 100), (101, 101)])

    def test_ends_that_hang_on_a_turn(self):
        # The new nought is nowhere told but by the marks: the day 100 may begin as late as one likes, and later ones.
        book = (TURN, ((0, 0, DAY_99), (0, 0, DAY_99 + 5000)), (("apart", 0, 0, 1, 0, 0, 0),
                                                             ("apart", 1, 0, 1, 1, -1000, None)))
        self.assertEqual(days.day_range(book, 0, 1), (99, 99))
        self.assertEqual(days.day_range(book, 1, 1), (99, 103))
        # Behind a turn whose old stretch may have begun at any time.
        book = (TURN, ((0, 0, DAY_100), (0, 0, DAY_99), (0, 0, 0)), (("apart", 0, 0, 1, 1, 0, 0),
                                                                  ("apart", 1, 0, 1, 1, -1000, None)))
        self.assertEqual([days.day_range(book, number, 1) for number in range(3)], [(100, 100), (98, 99), (-1, 99)])

    def test_unsteady_books(self):
        book = (((), (), (100,)), ((0, 0, 5),), ())
        for place in range(3):
            with self.assertRaises(errors.Unsteady):
                days.day_range(book, 0, place)
            with self.assertRaises(errors.Unsteady):
                days.day_world(book, 0, place, 0)
        self.assertEqual(days.due_mark(book, 0, ("days", 0), ()), (0, 1440))

    def test_books_without_worlds(self):
        for book in (helper.BROKEN_BOOK, helper.VOID_BOOK):
            for call in (lambda: days.day_range(book, 0, 1), lambda: days.day_world(book, 0, 1, 99)):
                with self.assertRaises(errors.NoWorld) as caught:
                    call()
                if book == helper.VOID_BOOK:
                    self.assertEqual(caught.exception.ring, [])
                else:
                    self.assertTrue(helper.is_bad_ring(clocks.system_of(book), caught.exception.ring))
            self.assertEqual(days.due_mark(book, 2, ("days", 0), ()), (2, DAY_100))

    def test_by_all_worlds(self):
        tried, unlike = 0, 0
        for book, _ in helper.tight_books(43, 250):
            found = helper.few_worlds(clocks.system_of(book), 500)
            if not found or first_unsteady(book, found):
                continue
            tried += 1
            for number in range(len(book[1])):
                for place in range(len(book[0])):
                    told = sorted({helper.local_day(book, world, number, place) for world in found})
                    self.assertEqual(told, list(range(told[0], told[-1] + 1)))
                    self.assertEqual(days.day_range(book, number, place), (told[0], told[-1]))
                    unlike += len(told) > 1
                    for day in range(told[0] - 2, told[-1] + 3):
                        world = days.day_world(book, number, place, day)
                        self.assertEqual(world in found, day in told)
                        self.assertEqual(world is None, day not in told)
                        if world is not None:
                            self.assertEqual(helper.local_day(book, world, number, place), day)
        self.assertGreater(tried, 80)
        self.assertGreater(unlike, 30)

    def test_ends_come_in_a_world_and_none_beyond(self):
        tried = 0
        for book in helper.some_books(44, 500, reach=2000):
            if clocks.book_bar(book) is not None or days.steady_bar(book):
                continue
            for number in range(len(book[1])):
                for place in range(len(book[0])):
                    tried += 1
                    self.assert_ends(book, number, place)
        self.assertGreater(tried, 200)

    def assert_ends(self, book, number, place):
        least, greatest = days.day_range(book, number, place)
        far = 10 ** 11
        inner = {end for end in (least, greatest) if end is not None}
        inner |= {(least if least is not None else -far), (greatest if greatest is not None else far)}
        for day in inner:
            self.assertTrue(is_on_day(book, days.day_world(book, number, place, day), number, place, day))
        if least is not None:
            self.assertIsNone(days.day_world(book, number, place, least - 1))
            self.assertIsNone(days.day_world(book, number, place, least - far))
        if greatest is not None:
            self.assertIsNone(days.day_world(book, number, place, greatest + 1))
            self.assertIsNone(days.day_world(book, number, place, greatest + far))

    def test_large_books(self):
        rolls = random.Random(45)
        for seed in range(6):
            book, world = helper.large_book(seed)
            self.assertIsNone(days.steady_bar(book))
            for number in (0, 20, 47):
                for place in (rolls.randrange(6), book[1][number][0]):
                    day = helper.local_day(book, world, number, place)
                    least, greatest = days.day_range(book, number, place)
                    self.assertTrue(least is None or least <= day)
                    self.assertTrue(greatest is None or greatest >= day)
                    self.assert_ends(book, number, place)


def is_on_day(book, world, number, place, day):
    """Whether it is a world of the book in which this is the local day of the entry."""
    if world is None or type(world) is not tuple or not helper.keeps_book(book, world):
        return False
    moment = helper.entry_in(book, world, number)
    return helper.mark_in(book, world, place, day) <= moment < helper.mark_in(book, world, place, day + 1)


class DueMarks(unittest.TestCase):
    def test_the_mark_of_the_day_behind_the_due_day(self):
        book = (TURN, ((1, 0, DAY_99), (1, 1, DAY_99), (1, 1, DAY_100 + 1439), (0, 0, -1)), ())
        for number, term, holidays, told in (
                (0, ("days", 0), (), (2, DAY_100)), (1, ("days", 0), (), (2, DAY_100)),
                (2, ("days", 0), (), (2, DAY_100 + 1440)), (3, ("days", 0), (), (0, 0)),
                (3, ("open", 0), (), (0, 0)), (3, ("open", 1), (2,), (0, 1440 * 4)),
                (3, ("end", 0), (), (0, 0)), (3, ("months", 2), (), (0, 1440 * 60)),
                (0, ("end", 0), (), (2, 1440 * 121))):
            self.assertEqual(days.due_mark(book, number, term, holidays), told)

    def test_the_mark_is_of_the_stretch_of_that_day(self):
        places = ((5, 9),)
        book = (places, ((0, 0, 0), (0, 1, 1440 * 4)), ())
        told = [days.due_mark(book, 0, ("days", k), ())[0] for k in range(10)]
        self.assertEqual(told, [0, 0, 0, 0, 1, 1, 1, 1, 2, 2])
        self.assertEqual(days.due_mark(book, 1, ("days", 0), ()), (1, 7200))


if __name__ == "__main__":
    unittest.main()
