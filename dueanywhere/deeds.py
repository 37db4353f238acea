"""Deeds: what a log of them makes of a book, of bills and payments, and of news.

The functions here are passed checked values: places, and a log of deeds that a house can do, but for the last one in
`fitting_book`. Bills, payments and transfers are told by their numbers.
"""

from dueanywhere.clocks import MINUTES
from dueanywhere.clocks import bar_of
from dueanywhere.clocks import book_system
from dueanywhere.clocks import claims_of_changes
from dueanywhere.clocks import claims_of_entry
from dueanywhere.clocks import claims_of_tie
from dueanywhere.clocks import entry_spot
from dueanywhere.clocks import mark_at
from dueanywhere.errors import Contradicted
from dueanywhere.errors import TooLate
from dueanywhere.kinds import is_tuple_of
from dueanywhere.orders import bounds_of_claims
from dueanywhere.orders import gap_ends

# The kinds of deeds, and how many parts they have.
FORMS = (("bill", 3), ("pay", 3), ("send", 4), ("tie", 2), ("close", 2))


def has_form(value):
    """Whether value is a tuple with a kind of deed and as many parts as such a deed has."""
    return any([is_tuple_of(length, value) and value[0] == kind for kind, length in FORMS])


def entries_of(deed):
    """The entries of a deed."""
    if deed[0] == "bill" or deed[0] == "pay":
        return [deed[1]]
    return [deed[1], deed[2]] if deed[0] == "send" else []


def ties_of(deed, count):
    """The ties of a deed, count being the number of the entries ahead of it."""
    if deed[0] == "send":
        return [("look", count, count + 1, 0, None)]
    return [deed[1]] if deed[0] == "tie" else []


def book_of(places, log):
    """The book of a log."""
    entries, ties = [], []
    for deed in log:
        ties.extend(ties_of(deed, len(entries)))
        entries.extend(entries_of(deed))
    return (places, tuple(entries), tuple(ties))


def entry_bounds(places, deed):
    """The bounds that the entries of a deed bring."""
    return [bound for entry in entries_of(deed) for bound in bounds_of_claims(claims_of_entry(places, entry))]


def tie_bounds(places, entries, deed, count):
    """The bounds that the tie of a deed brings, entries being those of the log, count of them ahead of the deed."""
    ties = ties_of(deed, count)
    return [bound for tie in ties for bound in bounds_of_claims(claims_of_tie(places, entries, tie))]


def counts_ahead(log):
    """For each deed the number of the entries ahead of it."""
    counts = [0]
    for deed in log:
        counts.append(counts[-1] + len(entries_of(deed)))
    return counts[:-1]


def bringers(places, log):
    """For each bound of the system of the book of a log the index of the deed that brings it, None for a change's."""
    entries = book_of(places, log)[1]
    found = [None] * len(claims_of_changes(places))
    for index, deed in enumerate(log):
        found.extend([index] * len(entry_bounds(places, deed)))
    # In a book the ties stand behind all entries.
    for index, count in enumerate(counts_ahead(log)):
        found.extend([index] * len(tie_bounds(places, entries, log[index], count)))
    return found


def fitting_book(places, log):
    """The book of a log; Contradicted with the deeds that bring a bad ring, with the last one if the book is void."""
    book = book_of(places, log)
    ring = bar_of(book)
    if ring is None:
        return book
    brought = bringers(places, log)
    deeds = sorted(set([brought[index] for index in ring if brought[index] is not None]))
    raise Contradicted(deeds if deeds else [len(log) - 1])


def closed_days(log):
    """The days that are closed."""
    return [deed[1] for deed in log if deed[0] == "close"]


def check_in_time(book, log):
    """Raise TooLate if an entry of the last deed may lie ahead of the mark of the day behind the last closed day."""
    days = closed_days(log)
    if not days:
        return
    places, system = book[0], book_system(book)
    mark = mark_at(places, 0, days[-1] + 1)
    for entry in entries_of(log[-1]):
        least, _ = gap_ends(system, mark, entry_spot(places, entry))
        if least is None or least < 0:
            raise TooLate(len(days) - 1)


def deeds_of(log, kind):
    """The deeds of a kind, by their numbers."""
    return [deed for deed in log if deed[0] == kind]


def money_of(places, log, kind):
    """The bills or the payments as tuples (spot, amount)."""
    return [(entry_spot(places, entry), amount) for _, entry, amount in deeds_of(log, kind)]


def transfers_of(places, log):
    """The sends as transfers."""
    sends = deeds_of(log, "send")
    return [(entry_spot(places, entry), entry_spot(places, other), amount) for _, entry, other, amount in sends]


def sequence_of_bills(log):
    """The numbers of the bills as the creditor has them: by their readings, those of one reading by their numbers."""
    readings = [entry[2] for _, entry, _ in deeds_of(log, "bill")]
    return [number for _, number in sorted([(reading, bill) for bill, reading in enumerate(readings)])]


def news_of(places, log):
    """The news of a log."""
    entries = book_of(places, log)[1]
    found = []
    for deed, count in zip(log, counts_ahead(log)):
        found.extend([("bound", i, j, most) for i, j, most in entry_bounds(places, deed)])
        found.extend(post_of(places, deed))
        found.extend([("bound", i, j, most) for i, j, most in tie_bounds(places, entries, deed, count)])
        if deed[0] == "close":
            found.append(("close", MINUTES * (deed[1] + 1)))
    return found


def post_of(places, deed):
    """A list of what a bill or a payment posts, empty for other deeds."""
    if deed[0] == "bill":
        return [("post", entry_spot(places, deed[1]), deed[2])]
    return [("post", entry_spot(places, deed[1]), -deed[2])] if deed[0] == "pay" else []


def moved_deed(deed, count):
    """A deed with the numbers of entries in its look moved by count."""
    if deed[0] != "tie" or deed[1][0] != "look":
        return deed
    _, number, other_number, least, most = deed[1]
    return ("tie", ("look", number + count, other_number + count, least, most))
