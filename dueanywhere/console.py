"""The console: commands in words, answered in words."""

from dueanywhere.errors import InvalidCommand
from dueanywhere.errors import InvalidWords
from dueanywhere.errors import NotReady
from dueanywhere.house import House
from dueanywhere.house import do_deed
from dueanywhere.words import check_end
from dueanywhere.words import integer_at
from dueanywhere.words import number_at
from dueanywhere.words import read_deed
from dueanywhere.words import read_places
from dueanywhere.words import read_term
from dueanywhere.words import write_deed
from dueanywhere.words import write_log

DEEDS = ("bill", "pay", "send", "apart", "look", "close")
# The commands without further words, and what follows the others: N a number from 0 on, D an integer.
BARE = ("undo", "begin", "keep", "drop", "rest", "log")
FORMS = {"day": "NN", "arrears": "ND", "flight": "ND", "report": "D", "present": "D", "cleared": "NND"}


def read_command(command):
    """The tuple of what a command is and of the list of what follows; InvalidCommand if it has no form of a command."""
    try:
        return parts_of_command(command)
    except InvalidWords:
        raise InvalidCommand("this is no command") from None


def parts_of_command(command):
    """What read_command returns, but InvalidWords for what is no command."""
    if not isinstance(command, str):
        raise InvalidWords(0)
    words = command.split(" ")
    name, _, rest = command.partition(" ")
    if name in DEEDS:
        return ("deed", [read_deed(command)])
    if name == "places":
        return (name, [read_places(rest)])
    if name == "late":
        return (name, [read_term(rest)])
    if name not in BARE and name not in FORMS:
        raise InvalidWords(0)
    kinds = FORMS.get(name, "")
    found = []
    for place, kind in enumerate(kinds):
        found.append(number_at(words, place + 1) if kind == "N" else integer_at(words, place + 1))
    check_end(words, len(kinds) + 1)
    return (name, found)


def write_range(told):
    """The text of a range."""
    least, greatest = told
    if least is not None and least == greatest:
        return str(least)
    return "..".join(["*" if end is None else str(end) for end in (least, greatest)])


class Console:
    """What commands do, with at most one house at a time."""

    def __init__(self):
        self._house = None

    def execute(self, command):
        """The answer to a command."""
        name, parts = read_command(command)
        if name == "places":
            self._house = House(parts[0])
            return "ok"
        if self._house is None:
            raise NotReady("there is no house yet")
        if name == "deed":
            return str(do_deed(self._house, parts[0]))
        if name in BARE:
            return self._answer_bare(name)
        if name == "cleared":
            return self._house.cleared(parts[0], parts[1], parts[2])
        if name == "late":
            return " ".join(self._house.late(parts[0], ())) or "-"
        return write_range(self._range(name, parts))

    def _answer_bare(self, name):
        """The answer to a command of one word."""
        if name == "undo":
            return write_deed(self._house.undo())
        if name == "log":
            return write_log(self._house.log)
        if name == "rest":
            return write_range(self._house.rest())
        if name == "begin":
            self._house.begin()
        elif name == "keep":
            self._house.keep()
        else:
            self._house.drop()
        return "ok"

    def _range(self, name, parts):
        """The range for which a command asks."""
        if name == "day":
            return self._house.day_range(parts[0], parts[1])
        if name == "arrears":
            return self._house.arrears(parts[0], parts[1])
        if name == "flight":
            return self._house.in_flight(parts[0], parts[1])
        return self._house.report(parts[0]) if name == "report" else self._house.present(parts[0])
