"""Places, entries and books: the points, spots and bounds that the readings of clocks stand for.

The functions of the interface check what they are passed; the others here are passed checked values.
"""

from dueanywhere.bounds import settle
from dueanywhere.errors import InvalidBook
from dueanywhere.errors import InvalidDay
from dueanywhere.errors import InvalidEntry
from dueanywhere.errors import InvalidPlace
from dueanywhere.errors import InvalidPlaces
from dueanywhere.errors import InvalidTie
from dueanywhere.errors import NoWorld
from dueanywhere.kinds import check_index
from dueanywhere.kinds import is_index
from dueanywhere.kinds import is_integer
from dueanywhere.kinds import is_tuple_of
from dueanywhere.orders import claimed_system
from dueanywhere.orders import gap_ends
from dueanywhere.orders import never_holds
from dueanywhere.worlds import check_world

MINUTES = 1440


def is_places(value):
    """Whether value is a tuple of places."""
    return isinstance(value, tuple) and len(value) > 0 and all([are_turns(turns) for turns in value])


def are_turns(value):
    """Whether value is the tuple of the turns of a place."""
    if not isinstance(value, tuple) or not all([is_integer(turn) for turn in value]):
        return False
    return all([later - turn >= 2 for turn, later in zip(value, value[1:])])


def is_stretch(places, place, stretch):
    """Whether both are numbers of a place and of a stretch there."""
    return is_index(len(places), place) and is_index(len(places[place]) + 1, stretch)


def is_entry_at(places, value):
    """Whether value is an entry at the places."""
    if not is_tuple_of(3, value):
        return False
    place, stretch, reading = value
    if not is_stretch(places, place, stretch) or not is_integer(reading):
        return False
    turns = places[place]
    day = own_day(value)
    return (stretch == 0 or day >= turns[stretch - 1] - 1) and (stretch == len(turns) or day < turns[stretch])


def own_day(entry):
    """The day that the clock of the entry shows."""
    return entry[2] // MINUTES


def are_ends(least, most):
    """Whether both are ends of a tie: integers or None, not both None, the first one not the greater one."""
    if least is None or most is None:
        return is_integer(least) or is_integer(most)
    return is_integer(least) and is_integer(most) and least <= most


def is_tie_between(places, entries, value):
    """Whether value is a tie of a book with these places and entries."""
    return is_apart(places, value) or is_look(entries, value)


def is_apart(places, value):
    """Whether value is a tie of two stretches."""
    if not is_tuple_of(7, value):
        return False
    kind, place, stretch, other_place, other_stretch, least, most = value
    if kind != "apart" or not is_stretch(places, place, stretch) or not is_stretch(places, other_place, other_stretch):
        return False
    return (place, stretch) != (other_place, other_stretch) and are_ends(least, most)


def is_look(entries, value):
    """Whether value is a tie of two entries."""
    if not is_tuple_of(5, value):
        return False
    kind, number, other_number, least, most = value
    if kind != "look" or not is_index(len(entries), number) or not is_index(len(entries), other_number):
        return False
    return number != other_number and are_ends(least, most)


def is_book(value):
    """Whether value is a book."""
    if not is_tuple_of(3, value):
        return False
    places, entries, ties = value
    if not is_places(places) or not isinstance(entries, tuple) or not isinstance(ties, tuple):
        return False
    if not all([is_entry_at(places, entry) for entry in entries]):
        return False
    return all([is_tie_between(places, entries, tie) for tie in ties])


def is_entry(places, value):
    """Whether value is an entry at the places."""
    if not is_places(places):
        raise InvalidPlaces("these are no places")
    return is_entry_at(places, value)


def is_tie(book, value):
    """Whether value is a tie of the book."""
    check_book(book)
    return is_tie_between(book[0], book[1], value)


def check_book(book):
    """Raise InvalidBook if it is no book."""
    if not is_book(book):
        raise InvalidBook("this is no book")


def check_entry_number(book, number):
    """Raise InvalidIndex if it is no number of an entry."""
    check_index(len(book[1]), number)


def check_place(book, place):
    """Raise InvalidPlace if it is no place of the book."""
    if not is_index(len(book[0]), place):
        raise InvalidPlace("this is no place of the book")


def check_day(day):
    """Raise InvalidDay if it is no integer."""
    if not is_integer(day):
        raise InvalidDay("this is no day")


def nought_of(places, place, stretch):
    """The point of the nought of a stretch."""
    return sum([len(turns) + 1 for turns in places[:place]]) + stretch


def change_of(places, place, turn):
    """The point of the change at a turn, told by its number."""
    noughts = nought_of(places, len(places), 0)
    return noughts + sum([len(turns) for turns in places[:place]]) + turn


def points_of(book):
    """The list of the tuples that tell for each point which nought or change it is."""
    check_book(book)
    found = []
    for place, turns in enumerate(book[0]):
        found.extend([("nought", place, stretch) for stretch in range(len(turns) + 1)])
    for place, turns in enumerate(book[0]):
        found.extend([("change", place, turn) for turn in range(len(turns))])
    return found


def entry_spot(places, entry):
    """The spot of an entry."""
    place, stretch, reading = entry
    return (nought_of(places, place, stretch), reading)


def mark_at(places, place, day):
    """The mark of a day at a place."""
    stretch = len([turn for turn in places[place] if turn <= day])
    return (nought_of(places, place, stretch), MINUTES * day)


def claims_of_changes(places):
    """The claims that each change lies from the mark of the day ahead of its turn to the mark of the turn."""
    found = []
    for place, turns in enumerate(places):
        for turn, day in enumerate(turns):
            change = (change_of(places, place, turn), 0)
            found.append((mark_at(places, place, day - 1), change, 0))
            found.append((change, mark_at(places, place, day), 0))
    return found


def claims_of_entry(places, entry):
    """The claims that an entry is not ahead of the change into its stretch, but ahead of the one out of it."""
    place, stretch, _ = entry
    spot = entry_spot(places, entry)
    found = []
    if stretch > 0:
        found.append(((change_of(places, place, stretch - 1), 0), spot, 0))
    if stretch < len(places[place]):
        found.append((spot, (change_of(places, place, stretch), 0), -1))
    return found


def tied_spots(places, entries, tie):
    """The two spots that a tie holds."""
    if tie[0] == "look":
        _, number, other_number, _, _ = tie
        return entry_spot(places, entries[number]), entry_spot(places, entries[other_number])
    _, place, stretch, other_place, other_stretch, _, _ = tie
    return (nought_of(places, place, stretch), 0), (nought_of(places, other_place, other_stretch), 0)


def claims_of_tie(places, entries, tie):
    """The claims that the second spot of a tie less the first one is at most its most, then at least its least."""
    one, other = tied_spots(places, entries, tie)
    least, most = tie[-2:]
    found = []
    if most is not None:
        found.append((other, one, most))
    if least is not None:
        found.append((one, other, -least))
    return found


def claims_of_ties(book):
    """The claims of all ties."""
    places, entries, ties = book
    return [claim for tie in ties for claim in claims_of_tie(places, entries, tie)]


def book_system(book):
    """The system of a book."""
    places, entries, _ = book
    points = change_of(places, len(places), 0)
    claims = claims_of_changes(places)
    claims.extend([claim for entry in entries for claim in claims_of_entry(places, entry)])
    claims.extend(claims_of_ties(book))
    return claimed_system((points, ()), claims)


def is_void(book):
    """Whether the readings deny a look between two entries of one stretch."""
    return any([never_holds(claim) for claim in claims_of_ties(book)])


def bar_of(book):
    """What bars the worlds of a book: the empty list of a void one, else a bad ring; None if there is a world."""
    return [] if is_void(book) else settle(book_system(book))[1]


def need_book_world(book):
    """Raise NoWorld with what bars the worlds of the book."""
    bar = bar_of(book)
    if bar is not None:
        raise NoWorld(bar)


def system_of(book):
    """The system of a book, of a void one without the looks that are not true."""
    check_book(book)
    return book_system(book)


def spot_of(book, entry_number):
    """The spot of an entry."""
    check_book(book)
    check_entry_number(book, entry_number)
    return entry_spot(book[0], book[1][entry_number])


def mark_of(book, place, day):
    """The mark of a day at a place."""
    check_book(book)
    check_place(book, place)
    check_day(day)
    return mark_at(book[0], place, day)


def with_entry(book, entry):
    """The book with one entry more behind the others."""
    check_book(book)
    places, entries, ties = book
    if not is_entry_at(places, entry):
        raise InvalidEntry("this is no entry at the places of the book")
    return (places, entries + (entry,), ties)


def with_tie(book, tie):
    """The book with one tie more behind the others."""
    check_book(book)
    places, entries, ties = book
    if not is_tie_between(places, entries, tie):
        raise InvalidTie("this is no tie of the book")
    return (places, entries, ties + (tie,))


def book_bar(book):
    """None if the book has worlds, the empty list if it is void, else a bad ring of its system."""
    check_book(book)
    return bar_of(book)


def moment(book, world, entry_number):
    """The moment of an entry in a world."""
    check_book(book)
    check_world(book_system(book), world)
    check_entry_number(book, entry_number)
    # A void book has no worlds, although its system may have some.
    if is_void(book):
        raise NoWorld([])
    point, shift = entry_spot(book[0], book[1][entry_number])
    return world[point] + shift


def apart(book, entry_number, other_number):
    """The tuple of the least and the greatest moment of the second entry less that of the first one."""
    check_book(book)
    check_entry_number(book, entry_number)
    check_entry_number(book, other_number)
    need_book_world(book)
    places, entries, _ = book
    one, other = entry_spot(places, entries[entry_number]), entry_spot(places, entries[other_number])
    return gap_ends(book_system(book), one, other)
