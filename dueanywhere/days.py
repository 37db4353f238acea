"""Days: on which local days entries lie, dates, open days and due days.

The functions of the interface check what they are passed; the others here are passed checked values.
"""

from dueanywhere.bounds import world_of
from dueanywhere.clocks import MINUTES
from dueanywhere.clocks import bar_of
from dueanywhere.clocks import book_system
from dueanywhere.clocks import check_book
from dueanywhere.clocks import check_day
from dueanywhere.clocks import check_entry_number
from dueanywhere.clocks import check_place
from dueanywhere.clocks import entry_spot
from dueanywhere.clocks import mark_at
from dueanywhere.clocks import need_book_world
from dueanywhere.clocks import nought_of
from dueanywhere.clocks import own_day
from dueanywhere.errors import InvalidDay
from dueanywhere.errors import InvalidHolidays
from dueanywhere.errors import InvalidTerm
from dueanywhere.errors import Unsteady
from dueanywhere.kinds import is_integer
from dueanywhere.kinds import is_number_from
from dueanywhere.kinds import is_tuple_of
from dueanywhere.orders import claim_bound
from dueanywhere.orders import claimed_system
from dueanywhere.orders import gap_ends
from dueanywhere.orders import holds_always
from dueanywhere.orders import never_holds

TERMS = ("days", "open", "months", "end")
MONTHS = (31, 28, 31, 30, 31, 30, 31, 31, 30, 31, 30, 31)
FIRST_YEAR = 2000
DAYS_IN_400_YEARS = 146097


def steady_bar(book):
    """The first place and turn whose mark may be not later than that of the day ahead, None if the book is steady."""
    check_book(book)
    if bar_of(book) is not None:
        return None
    return unsteady_turn(book[0], book_system(book))


def unsteady_turn(places, system):
    """What steady_bar returns, for the system of a book with worlds."""
    for place, turns in enumerate(places):
        for day in turns:
            # Of two days without a turn between them the marks are a day apart.
            claim = (mark_at(places, place, day - 1), mark_at(places, place, day), -1)
            if not holds_always(system, claim_bound(claim)):
                return (place, day)
    return None


def steady_system(book):
    """The system of a book; NoWorld if it has no worlds, Unsteady if it is not steady."""
    need_book_world(book)
    system = book_system(book)
    if unsteady_turn(book[0], system) is not None:
        raise Unsteady("the mark of a day may be not later than that of the day ahead")
    return system


def day_range(book, entry_number, place):
    """The tuple of the least and the greatest local day of an entry at a place, None for an end that there is not."""
    check_book(book)
    check_entry_number(book, entry_number)
    check_place(book, place)
    return range_of_days(book, entry_number, place)


def range_of_days(book, entry_number, place):
    """What day_range returns; NoWorld and Unsteady likewise."""
    system = steady_system(book)
    places, entries, _ = book
    spot = entry_spot(places, entries[entry_number])
    turns = places[place]
    noughts = [(nought_of(places, place, stretch), 0) for stretch in range(len(turns) + 1)]
    gaps = [gap_ends(system, nought, spot) for nought in noughts]
    return (least_day(turns, [least for least, _ in gaps]), greatest_day(turns, [greatest for _, greatest in gaps]))


def marked_days(turns, stretch):
    """The tuple of the first and the last day whose marks are of a stretch, None for an end that there is not."""
    first = None if stretch == 0 else turns[stretch - 1]
    last = None if stretch == len(turns) else turns[stretch] - 1
    return first, last


def day_in_stretch(turns, stretch, reading):
    """The last day of the stretch whose mark is at most this reading of its clock, None if there is none."""
    first, last = marked_days(turns, stretch)
    day = reading // MINUTES
    if first is not None and day < first:
        return None
    return day if last is None else min(day, last)


def least_day(turns, readings):
    """The last day that has begun in all worlds, None if there is none.

    The readings are the least ones that the clock of each stretch may show, None where there is no least one.
    """
    for stretch, reading in reversed(list(enumerate(readings))):
        if reading is not None:
            day = day_in_stretch(turns, stretch, reading)
            if day is not None:
                return day
    return None


def greatest_day(turns, readings):
    """The last day that has begun in some world, None if there is no last one.

    The readings are the greatest ones that the clock of each stretch may show, None where there is no greatest one.
    """
    for stretch, reading in reversed(list(enumerate(readings))):
        if reading is None:
            return marked_days(turns, stretch)[1]
        day = day_in_stretch(turns, stretch, reading)
        if day is not None:
            return day
    return None


def day_world(book, entry_number, place, day):
    """A world in which this is the local day of an entry at a place, None if there is none."""
    check_book(book)
    check_entry_number(book, entry_number)
    check_place(book, place)
    check_day(day)
    system = steady_system(book)
    places, entries, _ = book
    spot = entry_spot(places, entries[entry_number])
    claims = [(mark_at(places, place, day), spot, 0), (spot, mark_at(places, place, day + 1), -1)]
    if any([never_holds(claim) for claim in claims]):
        return None
    return world_of(claimed_system(system, claims))


def is_leap(year):
    """Whether a year has 366 days."""
    return year // 4 * 4 == year and (year // 100 * 100 != year or year // 400 * 400 == year)


def month_length(year, month):
    """The number of days of a month."""
    return 29 if month == 2 and is_leap(year) else MONTHS[month - 1]


def first_of_year(year):
    """The first day of a year."""
    years = year - FIRST_YEAR
    # Rounded up, so that the year itself is not counted; years ahead of the first one are counted below 0.
    return 365 * years + (years + 3) // 4 - (years + 99) // 100 + (years + 399) // 400


def first_of_month(year, month):
    """The first day of a month."""
    return first_of_year(year) + sum([month_length(year, ahead) for ahead in range(1, month)])


def year_of(day):
    """The year in which a day lies."""
    year = FIRST_YEAR + day * 400 // DAYS_IN_400_YEARS
    # The years of 400 years are not equally long, so this may be a year off.
    if day < first_of_year(year):
        return year - 1
    return year + 1 if day >= first_of_year(year + 1) else year


def date_of(day):
    """The tuple (year, month, day of the month) of a day."""
    year = year_of(day)
    month = 1
    left = day - first_of_year(year)
    while left >= month_length(year, month):
        left -= month_length(year, month)
        month += 1
    return (year, month, left + 1)


def date(day):
    """The tuple (year, month, day of the month) of a day."""
    check_day(day)
    return date_of(day)


def day_of(year, month, day):
    """The number of the day with this date."""
    if not is_integer(year) or not is_integer(month) or not is_integer(day):
        raise InvalidDay("a date is of three integers")
    if not 1 <= month <= 12 or not 1 <= day <= month_length(year, month):
        raise InvalidDay("there is no such day")
    return first_of_month(year, month) + day - 1


def weekday_of(day):
    """0 for Monday to 6 for Sunday."""
    return (day + 5) % 7


def weekday(day):
    """0 for Monday to 6 for Sunday."""
    check_day(day)
    return weekday_of(day)


def check_holidays(holidays):
    """Raise InvalidHolidays if these are no tuple of ascending days."""
    if not isinstance(holidays, tuple) or not all([is_integer(day) for day in holidays]):
        raise InvalidHolidays("these are no tuple of days")
    if not all([day < later for day, later in zip(holidays, holidays[1:])]):
        raise InvalidHolidays("the days do not ascend")


def check_term(term):
    """Raise InvalidTerm if it is no term."""
    if not is_tuple_of(2, term) or term[0] not in TERMS or not is_number_from(0, term[1]):
        raise InvalidTerm("this is no term")


def is_open(day, holidays):
    """Whether a day is no Saturday, no Sunday and no holiday."""
    check_day(day)
    check_holidays(holidays)
    return weekday_of(day) < 5 and day not in holidays


def open_days(first_day, last_day, holidays):
    """The number of open days from the first to the last one."""
    check_day(first_day)
    check_day(last_day)
    check_holidays(holidays)
    return count_open(first_day, last_day, holidays)


def count_open(first, last, holidays):
    """What open_days returns."""
    if last < first:
        return 0
    closed = [day for day in holidays if first <= day <= last and weekday_of(day) < 5]
    return weekdays_ahead(last + 1) - weekdays_ahead(first) - len(closed)


def weekdays_ahead(day):
    """The number of days from Monday to Friday from day 2, a Monday, to the one ahead of a day; below 0 ahead of it."""
    weeks, rest = divmod(day - 2, 7)
    return 5 * weeks + min(rest, 5)


def due_day(day, term, holidays):
    """The due day of a day by a term and holidays."""
    check_day(day)
    check_term(term)
    check_holidays(holidays)
    return due_of(day, term, holidays)


def due_of(day, term, holidays):
    """What due_day returns."""
    kind, number = term
    if kind == "days":
        return day + number
    if kind == "open":
        return open_day(day, 1, holidays) if number == 0 else open_day(day + 1, number, holidays)
    year, month, day_of_month = date_of(day)
    years, months = divmod(month - 1 + number, 12)
    last = month_length(year + years, months + 1)
    due = last if kind == "end" else min(day_of_month, last)
    return first_of_month(year + years, months + 1) + due - 1


def open_day(start, number, holidays):
    """The open day of this number, from 1 on, of those that are not ahead of the start."""
    low = start
    # So many weeks have five days each from Monday to Friday, more than enough for all holidays.
    high = start + 7 * (number + len(holidays))
    while low < high:
        middle = (low + high) // 2
        if count_open(start, middle, holidays) >= number:
            high = middle
        else:
            low = middle + 1
    return low


def due_mark(book, entry_number, term, holidays):
    """The mark, at the place of an entry, of the day behind the due day of its own day."""
    check_book(book)
    check_entry_number(book, entry_number)
    check_term(term)
    check_holidays(holidays)
    entry = book[1][entry_number]
    return mark_at(book[0], entry[0], due_of(own_day(entry), term, holidays) + 1)
