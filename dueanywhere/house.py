"""Houses: a log of deeds that is grown, taken back and asked; two kinds of houses, and houses made of logs."""

from dueanywhere.clocks import book_system
from dueanywhere.clocks import check_day
from dueanywhere.clocks import check_entry_number
from dueanywhere.clocks import check_place
from dueanywhere.clocks import entry_spot
from dueanywhere.clocks import is_entry_at
from dueanywhere.clocks import is_places
from dueanywhere.clocks import is_tie_between
from dueanywhere.clocks import mark_at
from dueanywhere.clocks import own_day
from dueanywhere.closings import answer_ends
from dueanywhere.closings import end_of_closing
from dueanywhere.closings import known_system
from dueanywhere.closings import report_ends
from dueanywhere.days import check_holidays
from dueanywhere.days import check_term
from dueanywhere.days import due_of
from dueanywhere.days import range_of_days
from dueanywhere.deeds import book_of
from dueanywhere.deeds import check_in_time
from dueanywhere.deeds import closed_days
from dueanywhere.deeds import deeds_of
from dueanywhere.deeds import fitting_book
from dueanywhere.deeds import has_form
from dueanywhere.deeds import money_of
from dueanywhere.deeds import moved_deed
from dueanywhere.deeds import news_of
from dueanywhere.deeds import sequence_of_bills
from dueanywhere.deeds import transfers_of
from dueanywhere.errors import ClosedAlready
from dueanywhere.errors import DueError
from dueanywhere.errors import InvalidAmount
from dueanywhere.errors import InvalidDay
from dueanywhere.errors import InvalidEntry
from dueanywhere.errors import InvalidLog
from dueanywhere.errors import InvalidPlaces
from dueanywhere.errors import InvalidTie
from dueanywhere.errors import NoBlock
from dueanywhere.errors import NothingToUndo
from dueanywhere.errors import UnlikePlaces
from dueanywhere.kinds import check_index
from dueanywhere.kinds import is_number_from
from dueanywhere.money import arrears_ends
from dueanywhere.money import cleared_word
from dueanywhere.money import clearing_ends
from dueanywhere.money import flight_ends
from dueanywhere.money import late_word


def check_entry(places, entry):
    """Raise InvalidEntry if it is no entry at the places."""
    if not is_entry_at(places, entry):
        raise InvalidEntry("this is no entry at the places of the house")


def check_amount(amount):
    """Raise InvalidAmount if it is no integer from 1 on."""
    if not is_number_from(1, amount):
        raise InvalidAmount("this is no amount from 1 on")


def bill_deed(places, entry, amount):
    """The deed of a bill; the errors of its parts."""
    check_entry(places, entry)
    if entry[0] != 0:
        raise InvalidEntry("a bill comes from the place 0")
    check_amount(amount)
    return ("bill", entry, amount)


def pay_deed(places, entry, amount):
    """The deed of a payment; the errors of its parts."""
    check_entry(places, entry)
    check_amount(amount)
    return ("pay", entry, amount)


def send_deed(places, entry, other_entry, amount):
    """The deed of a send; the errors of its parts."""
    check_entry(places, entry)
    check_entry(places, other_entry)
    check_amount(amount)
    return ("send", entry, other_entry, amount)


class House:
    """A house at the place 0, with a log of deeds."""

    STRICT = False

    def __init__(self, places):
        if not is_places(places) or places[0]:
            raise InvalidPlaces("these are no places, or the place 0 has turns")
        self._places = places
        self._blocks = []
        self._hold([], book_of(places, []))

    def __eq__(self, other):
        """Whether other is a house of the same kind with equal places and logs."""
        if not isinstance(other, House):
            return False
        return self.STRICT == other.STRICT and self._places == other._places and self._deeds == other._deeds

    def __len__(self):
        """The number of deeds."""
        return len(self._deeds)

    def __iter__(self):
        """The deeds."""
        return iter(self._deeds)

    @property
    def places(self):
        """The places."""
        return self._places

    @property
    def log(self):
        """The list of the deeds."""
        return list(self._deeds)

    @property
    def book(self):
        """The book of the log."""
        return self._book

    @property
    def depth(self):
        """The number of blocks that are open."""
        return len(self._blocks)

    def _hold(self, deeds, book):
        """Have these deeds, of which this is the book."""
        self._deeds = deeds
        self._book = book
        self._system = book_system(book)

    def _put(self, deed):
        """Put a deed that fits at the end of the log, and return its number among those of its kind."""
        deeds = self._deeds + [deed]
        self._hold(deeds, fitting_book(self._places, deeds))
        return len(deeds_of(deeds, deed[0])) - 1

    def bill(self, entry, amount):
        """A bill; its number."""
        return self._put(bill_deed(self._places, entry, amount))

    def pay(self, entry, amount):
        """A payment; its number."""
        return self._put(pay_deed(self._places, entry, amount))

    def send(self, entry, other_entry, amount):
        """Money that leaves at an entry and arrives at another one; its number."""
        return self._put(send_deed(self._places, entry, other_entry, amount))

    def tie(self, tie):
        """A tie of the book; its number."""
        if not is_tie_between(self._places, self._book[1], tie):
            raise InvalidTie("this is no tie of the book")
        return self._put(("tie", tie))

    def close(self, day):
        """The closing of a day; its number."""
        check_day(day)
        if any([day <= closed for closed in closed_days(self._deeds)]):
            raise InvalidDay("a day as late as this is closed")
        return self._put(("close", day))

    def undo(self):
        """Take back the last deed and return it."""
        start = self._blocks[-1] if self._blocks else 0
        if len(self._deeds) == start:
            raise NothingToUndo("there is no deed behind the beginning of the block")
        deed = self._deeds[-1]
        self._keep_first(len(self._deeds) - 1)
        return deed

    def _keep_first(self, count):
        """Take back all deeds but the first ones, so many of them."""
        deeds = self._deeds[:count]
        self._hold(deeds, book_of(self._places, deeds))

    def begin(self):
        """Open a block."""
        self._blocks.append(len(self._deeds))

    def _end_block(self):
        """End the innermost block, and return the number of the deeds ahead of it."""
        if not self._blocks:
            raise NoBlock("no block is open")
        return self._blocks.pop()

    def keep(self):
        """End the innermost block and keep its deeds."""
        self._end_block()

    def drop(self):
        """End the innermost block and take back its deeds."""
        self._keep_first(self._end_block())

    def twin(self):
        """A house of the same kind with the same places and log, and no block."""
        found = House(self._places)
        found._hold(list(self._deeds), self._book)
        return found

    def system(self):
        """The system of the book."""
        return self._system

    def spot(self, entry_number):
        """The spot of an entry."""
        check_entry_number(self._book, entry_number)
        return entry_spot(self._places, self._book[1][entry_number])

    def mark(self, place, day):
        """The mark of a day at a place."""
        check_place(self._book, place)
        check_day(day)
        return mark_at(self._places, place, day)

    def day_range(self, entry_number, place):
        """The tuple of the least and the greatest local day of an entry at a place."""
        check_entry_number(self._book, entry_number)
        check_place(self._book, place)
        return range_of_days(self._book, entry_number, place)

    def _bills(self):
        """The bills as the creditor has them."""
        bills = money_of(self._places, self._deeds, "bill")
        return [bills[number] for number in sequence_of_bills(self._deeds)]

    def _payments(self):
        """The payments."""
        return money_of(self._places, self._deeds, "pay")

    def _index_of_bill(self, bill):
        """The index of a bill, told by its number, in the creditor's sequence."""
        check_index(len(deeds_of(self._deeds, "bill")), bill)
        return sequence_of_bills(self._deeds).index(bill)

    def arrears(self, place, day):
        """The tuple of the least and the greatest arrears at the mark of a day."""
        return arrears_ends(self._system, self._bills(), self._payments(), self.mark(place, day))

    def in_flight(self, place, day):
        """The tuple of the least and the greatest sum in flight at the mark of a day."""
        return flight_ends(self._system, transfers_of(self._places, self._deeds), self.mark(place, day))

    def cleared(self, bill, place, day):
        """Whether a bill is cleared at the mark of a day: sure, maybe or never."""
        index = self._index_of_bill(bill)
        return cleared_word(self._system, self._bills(), self._payments(), index, self.mark(place, day))

    def clearing(self, bill):
        """The tuple of the least and the greatest time from a bill to its clearing, None if there is no clearing."""
        index = self._index_of_bill(bill)
        bills = self._bills()
        return clearing_ends(self._system, bills, self._payments(), index, bills[index][0])

    def late(self, term, holidays):
        """For each bill, by numbers, whether it is late for its due mark: sure, maybe or never."""
        check_term(term)
        check_holidays(holidays)
        entries = [entry for _, entry, _ in deeds_of(self._deeds, "bill")]
        days = [due_of(own_day(entry), term, holidays) for entry in entries]
        dues = [mark_at(self._places, 0, day + 1) for day in days]
        return [self._late_word(number, due) for number, due in enumerate(dues)]

    def _late_word(self, bill, due):
        """Whether a bill is late for a due spot."""
        index = self._index_of_bill(bill)
        return late_word(self._system, self._bills(), self._payments(), index, due)

    def _closing_of(self, day):
        """The number of the closing of just this day."""
        check_day(day)
        days = closed_days(self._deeds)
        if day not in days:
            raise InvalidDay("this day is not closed")
        return days.index(day)

    def _known(self, news):
        """The system known by news."""
        return known_system(book_system((self._places, (), ())), news)

    def report(self, day):
        """The range of the booked sum of a closed day as it was known when it closed."""
        closing = self._closing_of(day)
        news = news_of(self._places, self._deeds)
        told = news[:end_of_closing(news, closing)]
        return report_ends(self._known(told), 0, told, closing)

    def present(self, day):
        """The range of the booked sum of a closed day as it is known now."""
        closing = self._closing_of(day)
        news = news_of(self._places, self._deeds)
        return report_ends(self._known(news), 0, news, closing)

    def rest(self):
        """The range of the open sum."""
        news = news_of(self._places, self._deeds)
        question = [0] * len(closed_days(self._deeds)) + [1]
        return answer_ends(self._known(news), 0, news, question)


class StrictHouse(House):
    """A house that takes no bill, payment or send that may lie in a closed day."""

    STRICT = True

    def bill(self, entry, amount):
        """A bill; its number."""
        return self._put_in_time(bill_deed(self._places, entry, amount))

    def pay(self, entry, amount):
        """A payment; its number."""
        return self._put_in_time(pay_deed(self._places, entry, amount))

    def send(self, entry, other_entry, amount):
        """Money that leaves at an entry and arrives at another one; its number."""
        return self._put_in_time(send_deed(self._places, entry, other_entry, amount))

    def _put_in_time(self, deed):
        """Put a deed at the end of the log if it fits and none of its entries may lie in a closed day."""
        deeds = self._deeds + [deed]
        check_in_time(fitting_book(self._places, deeds), deeds)
        return self._put(deed)

    def twin(self):
        """A house of the same kind with the same places and log, and no block."""
        found = StrictHouse(self._places)
        found._hold(list(self._deeds), self._book)
        return found


def do_deed(house, deed):
    """Do a deed that has its form; its number."""
    kind = deed[0]
    if kind == "bill":
        return house.bill(deed[1], deed[2])
    if kind == "pay":
        return house.pay(deed[1], deed[2])
    if kind == "send":
        return house.send(deed[1], deed[2], deed[3])
    return house.tie(deed[1]) if kind == "tie" else house.close(deed[1])


def replay(places, log):
    """The House with this log."""
    house = House(places)
    if not isinstance(log, list) or not all([has_form(deed) for deed in log]):
        raise InvalidLog("this is no list of deeds")
    for deed in log:
        try:
            do_deed(house, deed)
        except DueError:
            raise InvalidLog("a house cannot do these deeds") from None
    return house


def joined(house, other_house):
    """The House with the log of the first house and behind it that of the second one."""
    if house.places != other_house.places:
        raise UnlikePlaces("the houses have unlike places")
    if closed_days(other_house.log):
        raise ClosedAlready("the second house has a closing")
    count = len(house.book[1])
    log = house.log + [moved_deed(deed, count) for deed in other_house.log]
    found = House(house.places)
    for deed in log:
        do_deed(found, deed)
    return found
