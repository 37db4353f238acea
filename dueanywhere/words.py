"""Words: texts for places, deeds, logs and terms, written and read.

Reading goes from the left: the functions whose names end in `_at` read what begins with the word of a place, and raise
InvalidWords with the place of the first word that cannot stand there. Where words are missing this is their number.
"""

from dueanywhere.errors import InvalidWords

DIGITS = "0123456789"
MOST_DIGITS = 30
TERM_KINDS = ("days", "open", "months", "end")
NOTHING = "-"
NO_END = "*"


def write_places(places):
    """The text of places."""
    return "/".join([write_turns(turns) for turns in places])


def write_turns(turns):
    """The text of the turns of a place."""
    return ",".join([str(turn) for turn in turns]) if turns else NOTHING


def write_deed(deed):
    """The text of a deed."""
    if deed[0] == "tie":
        return write_tie(deed[1])
    if deed[0] == "close":
        return f"close {deed[1]}"
    entries = " ".join([write_entry(entry) for entry in deed[1:-1]])
    return f"{deed[0]} {entries} {deed[-1]}"


def write_entry(entry):
    """The text of an entry."""
    place, stretch, reading = entry
    return f"{place}.{stretch}@{reading}"


def write_tie(tie):
    """The text of a tie."""
    ends = " ".join([NO_END if end is None else str(end) for end in tie[-2:]])
    if tie[0] == "look":
        return f"look {tie[1]} {tie[2]} {ends}"
    return f"apart {tie[1]}.{tie[2]} {tie[3]}.{tie[4]} {ends}"


def write_log(log):
    """The text of a log."""
    return " then ".join([write_deed(deed) for deed in log]) if log else NOTHING


def write_term(term):
    """The text of a term."""
    return f"{term[0]} {term[1]}"


def split_words(text):
    """The list of the words of a text."""
    if not isinstance(text, str):
        raise InvalidWords(0)
    return text.split(" ")


def check_end(words, place):
    """Raise InvalidWords if there is a word more."""
    if place < len(words):
        raise InvalidWords(place)


def word_at(words, place):
    """A word."""
    if place == len(words):
        raise InvalidWords(place)
    return words[place]


def is_number_word(word):
    """Whether a word, or a part of one, is a number from 0 on."""
    if not 1 <= len(word) <= MOST_DIGITS or not all([letter in DIGITS for letter in word]):
        return False
    return word == "0" or not word.startswith("0")


def is_integer_word(word):
    """Whether a word, or a part of one, is an integer."""
    if word.startswith("-"):
        return is_number_word(word[1:]) and word != "-0"
    return is_number_word(word)


def number_at(words, place):
    """A number from 0 on."""
    word = word_at(words, place)
    if not is_number_word(word):
        raise InvalidWords(place)
    return int(word)


def integer_at(words, place):
    """An integer."""
    word = word_at(words, place)
    if not is_integer_word(word):
        raise InvalidWords(place)
    return int(word)


def amount_at(words, place):
    """An amount from 1 on."""
    amount = number_at(words, place)
    if amount == 0:
        raise InvalidWords(place)
    return amount


def stretch_at(words, place):
    """The tuple of a place and of a stretch there."""
    return stretch_in(word_at(words, place), place)


def stretch_in(text, place):
    """The tuple of a place and of a stretch there that a text tells, a word or the first part of one."""
    ahead, _, behind = text.partition(".")
    if not is_number_word(ahead) or not is_number_word(behind):
        raise InvalidWords(place)
    return (int(ahead), int(behind))


def entry_at(words, place):
    """An entry."""
    ahead, _, reading = word_at(words, place).partition("@")
    if not is_integer_word(reading):
        raise InvalidWords(place)
    return stretch_in(ahead, place) + (int(reading),)


def end_at(words, place):
    """An end of a tie."""
    return None if word_at(words, place) == NO_END else integer_at(words, place)


def ends_at(words, place):
    """The tuple of both ends of a tie."""
    least, most = end_at(words, place), end_at(words, place + 1)
    if least is None and most is None:
        raise InvalidWords(place + 1)
    if least is not None and most is not None and least > most:
        raise InvalidWords(place + 1)
    return (least, most)


def deed_at(words, place):
    """The tuple of a deed and of the place behind it."""
    kind = word_at(words, place)
    if kind == "bill" or kind == "pay":
        return ((kind, entry_at(words, place + 1), amount_at(words, place + 2)), place + 3)
    if kind == "send":
        entry, other_entry = entry_at(words, place + 1), entry_at(words, place + 2)
        return ((kind, entry, other_entry, amount_at(words, place + 3)), place + 4)
    if kind == "close":
        return ((kind, integer_at(words, place + 1)), place + 2)
    if kind == "look":
        return (("tie", (kind,) + look_at(words, place + 1)), place + 5)
    if kind == "apart":
        return (("tie", (kind,) + apart_at(words, place + 1)), place + 5)
    raise InvalidWords(place)


def look_at(words, place):
    """The parts of a look behind its kind."""
    number, other_number = number_at(words, place), number_at(words, place + 1)
    if number == other_number:
        raise InvalidWords(place + 1)
    return (number, other_number) + ends_at(words, place + 2)


def apart_at(words, place):
    """The parts of a tie of two stretches behind its kind."""
    stretch, other_stretch = stretch_at(words, place), stretch_at(words, place + 1)
    if stretch == other_stretch:
        raise InvalidWords(place + 1)
    return stretch + other_stretch + ends_at(words, place + 2)


def turns_in(text):
    """The turns of a place that a text tells; the text is a part of the first word."""
    if text == NOTHING:
        return ()
    parts = text.split(",")
    if not all([is_integer_word(part) for part in parts]):
        raise InvalidWords(0)
    turns = tuple([int(part) for part in parts])
    if not all([later - turn >= 2 for turn, later in zip(turns, turns[1:])]):
        raise InvalidWords(0)
    return turns


def read_places(words):
    """The places that a text tells."""
    told = split_words(words)
    places = tuple([turns_in(part) for part in told[0].split("/")])
    check_end(told, 1)
    return places


def read_deed(words):
    """The deed that a text tells."""
    told = split_words(words)
    deed, place = deed_at(told, 0)
    check_end(told, place)
    return deed


def read_log(words):
    """The log that a text tells."""
    told = split_words(words)
    if told[0] == NOTHING:
        check_end(told, 1)
        return []
    deed, place = deed_at(told, 0)
    log = [deed]
    while place < len(told):
        if told[place] != "then":
            raise InvalidWords(place)
        deed, place = deed_at(told, place + 1)
        log.append(deed)
    return log


def read_term(words):
    """The term that a text tells."""
    told = split_words(words)
    if told[0] not in TERM_KINDS:
        raise InvalidWords(0)
    number = number_at(told, 1)
    check_end(told, 2)
    return (told[0], number)
