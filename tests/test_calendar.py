"""Point [23]: dates, open days and due days, beside Python's own calendar, which begins anew every 400 years."""

import datetime
import random
import unittest

from dueanywhere import days
from dueanywhere import errors
from tests import helper

DAY_0 = datetime.date(2000, 1, 1)
CYCLE = 146097
HOLIDAYS = (-8, -7, -6, -5, 0, 1, 2, 3, 4, 5, 9, 12, 13, 16)


def date_by_python(day):
    """The date of any day, by one of the years from 2000 to 2399."""
    cycles, rest = divmod(day, CYCLE)
    told = DAY_0 + datetime.timedelta(rest)
    return (told.year + 400 * cycles, told.month, told.day)


def is_open(day, holidays):
    return (DAY_0 + datetime.timedelta(day % CYCLE)).weekday() < 5 and day not in holidays


def due_by_words(day, term, holidays):
    """The due day by the words of point [23], day after day and month after month."""
    kind, number = term
    if kind == "days":
        return day + number
    if kind == "open":
        left = number
        while left > 0 or not is_open(day, holidays):
            day += 1
            left -= is_open(day, holidays)
        return day
    year, month, place = date_by_python(day)
    for _ in range(number):
        year, month = (year, month + 1) if month < 12 else (year + 1, 1)
    while not helper.is_date(year, month, place):
        place -= 1
    while kind == "end" and helper.is_date(year, month, place + 1):
        place += 1
    return days.day_of(year, month, place)


class Dates(unittest.TestCase):
    def test_the_examples(self):
        told = [days.date(0), days.day_of(2026, 11, 17), days.weekday(0), days.date(-1),
                days.weekday(days.day_of(2026, 11, 17))]
        self.assertEqual(told, [(2000, 1, 1), 9817, 5, (1999, 12, 31), 1])

    def test_all_days_of_400_years(self):
        for cycle in (0, -7, 10 ** 6):
            for rest in range(0, CYCLE, 1 if cycle == 0 else 61):
                day = CYCLE * cycle + rest
                told = days.date(day)
                self.assertEqual(told, date_by_python(day))
                self.assertEqual(days.day_of(*told), day)
                self.assertEqual(days.weekday(day), (DAY_0 + datetime.timedelta(rest)).weekday())

    def test_the_ends_of_all_years_of_a_cycle(self):
        for year in range(-401, 801):
            first = days.day_of(year, 1, 1)
            self.assertEqual(days.date(first), (year, 1, 1))
            self.assertEqual(days.date(first - 1), (year - 1, 12, 31))
            self.assertEqual(days.day_of(year - 1, 12, 31), first - 1)
            leap = helper.is_date(year, 2, 29)
            self.assertEqual(days.day_of(year + 1, 1, 1) - first, 366 if leap else 365)
            self.assertEqual(days.day_of(year, 3, 1) - days.day_of(year, 2, 28), 2 if leap else 1)

    def test_years_ahead_of_year_1(self):
        self.assertEqual(days.day_of(1, 1, 1), (datetime.date(1, 1, 1) - DAY_0).days)
        told = days.day_of(1, 1, 1)
        self.assertEqual(days.date(told - 1), (0, 12, 31))
        self.assertEqual(days.date(told - 366), (0, 1, 1))
        self.assertEqual(days.date(told - 367), (-1, 12, 31))
        self.assertEqual(days.day_of(0, 2, 29), told - 366 + 59)
        self.assertEqual(days.day_of(0, 1, 1), -730485)
        self.assertEqual(days.day_of(-4, 2, 29) + 1, days.day_of(-4, 3, 1))
        self.assertEqual(days.date(-CYCLE * 10 ** 5), (2000 - 4 * 10 ** 7, 1, 1))

    def test_days_of_many_digits(self):
        rolls = random.Random(1)
        for digits in (9, 10, 12, 30):
            for _ in range(100):
                day = rolls.randint(-10 ** digits + 1, 10 ** digits - 1)
                self.assertEqual(days.date(day), date_by_python(day))
                self.assertEqual(days.day_of(*days.date(day)), day)
        self.assertEqual(days.date(9999999999), date_by_python(9999999999))

    def test_there_is_no_such_day(self):
        for told in ((2023, 2, 29), (1900, 2, 29), (2100, 2, 29), (-1, 2, 29), (100, 2, 29), (2024, 2, 30), (2024, 4, 31),
                     (2024, 6, 31), (2024, 9, 31), (2024, 11, 31), (2024, 1, 32), (2024, 12, 32), (2024, 1, 0),
                     (2024, 0, 1), (2024, 13, 1), (2024, -1, 1), (2024, 1, -1), (2024, True, 1), (2024, 1, True),
                     (True, 1, 1), (None, 1, 1), ("2024", 1, 1), (2024, (1,), 1), (2024, 1, [1]), (2024, 10 ** 39, 1)):
            with self.assertRaises(errors.InvalidDay, msg=told):
                days.day_of(*told)
        for told in ((2000, 2, 29), (0, 2, 29), (-400, 2, 29), (2024, 12, 31), (2024, 4, 30), (-10 ** 30, 1, 31)):
            self.assertEqual(days.date(days.day_of(*told)), told)


class OpenDays(unittest.TestCase):
    def test_single_days(self):
        for day in list(range(-30, 60)) + [CYCLE * 3 + 5, -CYCLE * 10 ** 5 + 2]:
            for holidays in ((), HOLIDAYS, (day,), (day - 1, day + 1), (-10 ** 30, day, 10 ** 30)):
                self.assertIs(days.is_open(day, holidays), is_open(day, holidays))

    def test_from_the_first_to_the_last_one(self):
        self.assertEqual(days.open_days(0, 9, (2,)), 5)
        for first in range(-20, 20):
            for last in range(first - 3, 30):
                for holidays in ((), HOLIDAYS, (-20, 29), (first, last) if first < last else (first,)):
                    told = sum(is_open(day, holidays) for day in range(first, last + 1))
                    self.assertEqual(days.open_days(first, last, holidays), told)

    def test_the_last_one_is_earlier(self):
        self.assertEqual(days.open_days(9, 0, ()), 0)
        self.assertEqual(days.open_days(3, 2, (2, 3)), 0)
        self.assertEqual(days.open_days(10 ** 10, -10 ** 10, HOLIDAYS), 0)
        self.assertEqual(days.open_days(3, 3, ()), 1)
        with self.assertRaises(errors.InvalidHolidays):
            days.open_days(9, 0, [])

    def test_far_days(self):
        self.assertEqual(days.open_days(-7 * 10 ** 9, 7 * 10 ** 9 - 1, ()), 10 ** 10)
        self.assertEqual(days.open_days(-7 * 10 ** 9, 7 * 10 ** 9 - 1, HOLIDAYS),
                         10 ** 10 - sum(is_open(day, ()) for day in HOLIDAYS))


class DueDays(unittest.TestCase):
    def test_the_examples(self):
        told = [days.due_day(0, ("open", 0), ()), days.due_day(0, ("open", 1), (2,)), days.due_day(30, ("months", 1), ()),
                days.due_day(0, ("end", 1), ())]
        self.assertEqual(told, [2, 3, 59, 59])

    def test_by_the_words(self):
        starts = list(range(-12, 20)) + [30, 58, 59, 60, 365, 366, -306, CYCLE * 7 + 30, -CYCLE * 5 * 10 ** 4 + 59]
        for start in starts:
            for number in (0, 1, 2, 3, 5, 11, 12, 13, 25):
                for holidays in ((), HOLIDAYS, (start,), tuple(range(start, start + 9)), (start - 1, start + 1)):
                    for kind in ("days", "open", "months", "end"):
                        told = days.due_day(start, (kind, number), holidays)
                        self.assertEqual(told, due_by_words(start, (kind, number), holidays), (start, kind, number))

    def test_terms_of_0(self):
        self.assertEqual([days.due_day(start, ("open", 0), ()) for start in range(-1, 5)], [-1, 2, 2, 2, 3, 4])
        self.assertEqual([days.due_day(start, ("open", 0), (2, 3)) for start in range(0, 6)], [4, 4, 4, 4, 4, 5])
        self.assertEqual([days.due_day(start, ("days", 0), (5,)) for start in (4, 5)], [4, 5])
        self.assertEqual(days.due_day(59, ("months", 0), ()), 59)
        self.assertEqual([days.due_day(start, ("end", 0), ()) for start in (0, 30, 31, 59, 60)], [30, 30, 59, 59, 90])

    def test_large_terms(self):
        self.assertEqual(days.due_day(0, ("days", 10000), ()), 10000)
        for number in (9999, 10000):
            for start in (-5, 30, 60):
                told = days.due_day(start, ("open", number), HOLIDAYS)
                self.assertEqual(told, due_by_words(start, ("open", number), HOLIDAYS))
                for kind in ("months", "end"):
                    self.assertEqual(days.due_day(start, (kind, number), ()), due_by_words(start, (kind, number), ()))
        self.assertEqual(days.due_day(2, ("open", 5 * 10 ** 12), ()), 7 * 10 ** 12 + 2)
        self.assertEqual(days.due_day(30, ("months", 12 * 400 * 10 ** 9), ()), CYCLE * 10 ** 9 + 30)

    def test_many_holidays(self):
        holidays = tuple(range(-10, 50))
        for number in range(4):
            for start in (-11, -10, 0, 49, 50):
                told = days.due_day(start, ("open", number), holidays)
                self.assertEqual(told, due_by_words(start, ("open", number), holidays))

    def test_a_later_day_has_no_earlier_due_day(self):
        for kind in ("days", "open", "months", "end"):
            for number in (0, 1, 2, 14):
                for holidays in ((), HOLIDAYS):
                    told = [days.due_day(start, (kind, number), holidays) for start in range(-40, 400)]
                    self.assertEqual(told, sorted(told))


class WrongValues(unittest.TestCase):
    def test_terms(self):
        for term in (("days", -1), ("days", True), ("days", None), ("days", "3"), ("weeks", 3), ("Days", 3), ("days",),
                     ("days", 3, 0), ["days", 3], (3, "days"), None, "days", (), (None, 3), (["days"], 3), (True, 1)):
            with self.assertRaises(errors.InvalidTerm, msg=term):
                days.due_day(0, term, ())
            with self.assertRaises(errors.InvalidTerm, msg=term):
                days.due_mark(helper.BOOK, 0, term, None)

    def test_holidays(self):
        for holidays in ([], [2], (2, 2), (3, 2), (True,), (2, None), ("2",), None, 2, "2", ((2,),), (2, 3, 3), (0, False)):
            with self.assertRaises(errors.InvalidHolidays, msg=holidays):
                days.due_day(0, ("days", 3), holidays)
            with self.assertRaises(errors.InvalidHolidays, msg=holidays):
                days.is_open(0, holidays)
            with self.assertRaises(errors.InvalidHolidays, msg=holidays):
                days.open_days(0, 9, holidays)

    def test_days(self):
        for day in (True, False, None, "0", (0,), [0], ()):
            for call in (lambda: days.date(day), lambda: days.weekday(day), lambda: days.is_open(day, None),
                         lambda: days.open_days(day, None, None), lambda: days.open_days(0, day, None),
                         lambda: days.due_day(day, None, None), lambda: days.day_of(day, 1, 1)):
                with self.assertRaises(errors.InvalidDay, msg=day):
                    call()


if __name__ == "__main__":
    unittest.main()
