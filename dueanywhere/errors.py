"""The errors of the package: each one stands directly under DueError."""


class DueError(ValueError):
    """What every error of this package is."""


class InvalidSystem(DueError):
    """A value is no system."""


class InvalidBounds(DueError):
    """A value is no list or tuple of bounds of the system."""


class InvalidPoint(DueError):
    """A value is no point of the system."""


class InvalidSpots(DueError):
    """A value is no spot, or no list of spots, of the system."""


class InvalidWorld(DueError):
    """A value is no world of the system, or no tuple of moments."""


class InvalidClaims(DueError):
    """A value is no claim, or no list of claims."""


class InvalidIndex(DueError):
    """A value is no index of what it counts."""


class InvalidNumber(DueError):
    """A value is no integer, or beyond the bounds that are told for it."""


class InvalidWeights(DueError):
    """A value is no list of integers, one for each spot or item."""


class InvalidPairs(DueError):
    """A value is no list or tuple of pairs of items."""


class InvalidItems(DueError):
    """A value is no list or tuple of items, or no carry."""


class InvalidLine(DueError):
    """A value is no line of so many spots."""


class InvalidPlaces(DueError):
    """A value is no tuple of places."""


class InvalidBook(DueError):
    """A value is no book."""


class InvalidEntry(DueError):
    """A value is no entry."""


class InvalidTie(DueError):
    """A value is no tie of the book."""


class InvalidPlace(DueError):
    """A value is no place of the book."""


class InvalidDay(DueError):
    """A value, or several, make no day."""


class InvalidTerm(DueError):
    """A value is no term."""


class InvalidHolidays(DueError):
    """A value is no tuple of holidays."""


class InvalidPast(DueError):
    """A value is no list of indexes for a past, or no past."""


class InvalidMoney(DueError):
    """A value is no list of bills, payments or uses."""


class InvalidTransfers(DueError):
    """A value is no list of transfers."""


class InvalidMarks(DueError):
    """A value is no list of marks of a price."""


class InvalidStaging(DueError):
    """A value is no list of stages, or no staging."""


class InvalidCosts(DueError):
    """A value is no cost table, or no list of prices."""


class InvalidSpan(DueError):
    """Two spots make no span that can be summed up."""


class InvalidCharges(DueError):
    """A value is no list of charges."""


class InvalidTariffs(DueError):
    """A value is no list of tariffs."""


class InvalidNews(DueError):
    """A value is no list of news."""


class InvalidQuestion(DueError):
    """A value is no question."""


class InvalidLooks(DueError):
    """A value is no list of looks."""


class InvalidCouples(DueError):
    """A value is no list of couples."""


class InvalidOffers(DueError):
    """A value is no list of offers."""


class InvalidAmount(DueError):
    """A value is no amount of a deed."""


class InvalidLog(DueError):
    """A value is no log that a house can do."""


class InvalidCommand(DueError):
    """A value has not the form of a command."""


class EndlessWorlds(DueError):
    """The system has endlessly many worlds."""


class TooMany(DueError):
    """There are more results than are listed."""


class Unsteady(DueError):
    """The book is not steady."""


class NothingToUndo(DueError):
    """There is no deed that can be taken back."""


class NoBlock(DueError):
    """No block is open."""


class UnlikePlaces(DueError):
    """Two houses have unlike places."""


class ClosedAlready(DueError):
    """The second house has a closing."""


class NotReady(DueError):
    """There is no house yet."""


class NoWorld(DueError):
    """No world keeps all bounds: ring is a bad ring, or empty for a void book."""

    def __init__(self, ring):
        DueError.__init__(self, "no world keeps all bounds")
        self.ring = ring


class NoSet(DueError):
    """There is no closed set: clash is a clash."""

    def __init__(self, clash):
        DueError.__init__(self, "there is no closed set")
        self.clash = clash


class Contradicted(DueError):
    """A deed does not fit: deeds are the indexes of those that bring a bad ring."""

    def __init__(self, deeds):
        DueError.__init__(self, "the deeds contradict one another")
        self.deeds = deeds


class TooLate(DueError):
    """An entry may lie ahead of a closed mark: closing is the number of the closing."""

    def __init__(self, closing):
        DueError.__init__(self, "an entry may lie in a closed day")
        self.closing = closing


class InvalidWords(DueError):
    """A text cannot be read: place is the index of the first word that cannot stand."""

    def __init__(self, place):
        DueError.__init__(self, "a word cannot stand")
        self.place = place
