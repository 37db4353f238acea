"""Point [59]: texts there and back, and the first word that cannot stand, by a grammar of its own."""

import inspect
import itertools
import random
import re
import unittest

from dueanywhere import errors
from dueanywhere import words
from dueanywhere.house import House
from tests import helper

NUMBER = "(0|[1-9][0-9]{0,29})"
INTEGER = "(0|-?[1-9][0-9]{0,29})"
SHAPES = {
    "number": NUMBER, "integer": INTEGER, "amount": "([1-9][0-9]{0,29})", "stretch": f"{NUMBER}[.]{NUMBER}",
    "entry": f"{NUMBER}[.]{NUMBER}@{INTEGER}", "end": f"([*]|{INTEGER})",
}
DEEDS = {
    "bill": ["entry", "amount"], "pay": ["entry", "amount"], "send": ["entry", "entry", "amount"],
    "apart": ["stretch", "stretch", "end", "end"], "look": ["number", "number", "end", "end"], "close": ["integer"],
}
BIG = 10 ** 30 - 1
PLACES = [((),), ((), (100, 300)), ((-5, 3), ()), ((0,),), ((-2, 0, 2), (), (BIG - 2, BIG)), ((-BIG,),), ((), (), ())]
ENTRIES = [(0, 0, 0), (1, 0, -5), (12, 3, 1440), (BIG, BIG, -BIG), (0, 10, BIG)]
LOG = [("bill", (0, 0, -5), 70), ("tie", ("look", 0, 1, None, 3)), ("pay", (1, 2, 3), 1), ("close", -3),
       ("send", (0, 0, 0), (1, 0, BIG), BIG), ("tie", ("apart", 0, 0, 1, 0, -4, -4)), ("tie", ("look", 5, 2, 7, None))]


def fits(kind, word):
    return re.fullmatch(SHAPES[kind], word) is not None


def first_wrong_in_deed(told, start):
    """The tuple (place, None) of the first word that cannot stand in a deed, or (None, place behind it)."""
    if start >= len(told) or told[start] not in DEEDS:
        return start, None
    kinds = DEEDS[told[start]]
    for at, kind in enumerate(kinds):
        place = start + 1 + at
        if place >= len(told) or not fits(kind, told[place]):
            return place, None
        if at == 1 and told[start] in ("look", "apart") and told[place] == told[place - 1]:
            return place, None
        if at == 3 and not are_ends(told[place - 1], told[place]):
            return place, None
    return None, start + 1 + len(kinds)


def are_ends(least, most):
    if "*" in (least, most):
        return least != most
    return int(least) <= int(most)


def wrong_in_deed(text):
    told = text.split(" ")
    place, behind = first_wrong_in_deed(told, 0)
    return place if place is not None else behind if behind < len(told) else None


def wrong_in_log(text):
    told = text.split(" ")
    if told[0] == "-":
        return 1 if len(told) > 1 else None
    start = 0
    while True:
        place, behind = first_wrong_in_deed(told, start)
        if place is not None or behind == len(told):
            return place
        if told[behind] != "then":
            return behind
        start = behind + 1


def wrong_in_term(text):
    told = text.split(" ")
    if told[0] not in ("days", "open", "months", "end"):
        return 0
    if len(told) < 2 or not fits("number", told[1]):
        return 1
    return 2 if len(told) > 2 else None


def wrong_in_places(text):
    told = text.split(" ")
    for part in told[0].split("/"):
        turns = part.split(",")
        if part != "-" and not all(fits("integer", turn) for turn in turns):
            return 0
        if part != "-" and any(int(later) - int(turn) < 2 for turn, later in zip(turns, turns[1:])):
            return 0
    return 1 if len(told) > 1 else None


READERS = [(words.read_places, wrong_in_places), (words.read_deed, wrong_in_deed), (words.read_log, wrong_in_log),
           (words.read_term, wrong_in_term)]
ODD_WORDS = ["", "-", "*", "0", "1", "-1", "-0", "00", "01", "-01", "+1", "1" * 30, "1" * 31, "-" + "9" * 30, "-" + "9" * 31,
             "0.0", "1.0", "0.0@5", "0.0@-5", "0.0@-0", "0.0@", "0@5", "0.@5", ".0@5", "0.0.0@5", "0.0@5@5", "-1.0@5",
             "0.-1@5", "0.00@5", "0,0@5", "00.0@5", "0.0@05", "then", "bill", "look", "close", "days", "x", "1.5", "1e3",
             "--1", "1-", "1_0", " ", "0.0@*", "**", "-/-", "1,3", "1,2", "3,1", "1,,3", "/", "1/", ",", "1/3", "-,1", "0x1",
             "Bill", "3", "2", "-3"]


class Examples(unittest.TestCase):
    def test_all_of_them(self):
        told = [words.write_log([("bill", (0, 0, -5), 70), ("tie", ("look", 0, 1, None, 3))]), words.read_deed("close -3"),
                words.read_term("months 2"), words.read_places("-/100,300")]
        self.assertEqual(told, ["bill 0.0@-5 70 then look 0 1 * 3", ("close", -3), ("months", 2), ((), (100, 300))])
        for routine, text in ((words.read_log, "close 1 close 2"), (words.read_deed, "look 3 3 0 1")):
            with self.assertRaises(errors.InvalidWords) as caught:
                routine(text)
            self.assertEqual(caught.exception.place, 2)

    def test_the_names_of_the_parameters(self):
        for routine, name in ((words.write_places, "places"), (words.write_deed, "deed"), (words.write_log, "log"),
                              (words.write_term, "term"), (words.read_places, "words"), (words.read_deed, "words"),
                              (words.read_log, "words"), (words.read_term, "words")):
            self.assertEqual(list(inspect.signature(routine).parameters), [name])
            self.assertEqual(routine.__module__, words.__name__)
        self.assertEqual(words.read_deed(words="close 4"), ("close", 4))
        self.assertEqual(words.write_deed(deed=("close", 4)), "close 4")
        self.assertEqual(words.read_log(words=words.write_log(log=LOG)), LOG)
        self.assertEqual(words.read_places(words=words.write_places(places=((),))), ((),))
        self.assertEqual(words.read_term(words=words.write_term(term=("end", 0))), ("end", 0))


class ThereAndBack(unittest.TestCase):
    def assert_same(self, writer, reader, value, text):
        self.assertEqual(writer(value), text)
        back = reader(text)
        self.assertEqual(back, value)
        self.assertEqual(repr(back), repr(value))

    def test_places(self):
        texts = ["-", "-/100,300", "-5,3/-", "0", f"-2,0,2/-/{BIG - 2},{BIG}", f"-{BIG}", "-/-/-"]
        for places, text in zip(PLACES, texts, strict=True):
            self.assert_same(words.write_places, words.read_places, places, text)

    def test_deeds(self):
        for place, stretch, reading in ENTRIES:
            entry, text = (place, stretch, reading), f"{place}.{stretch}@{reading}"
            for amount in (1, 70, BIG):
                for kind in ("bill", "pay"):
                    self.assert_same(words.write_deed, words.read_deed, (kind, entry, amount), f"{kind} {text} {amount}")
                deed = ("send", entry, (3, 4, -7), amount)
                self.assert_same(words.write_deed, words.read_deed, deed, f"send {text} 3.4@-7 {amount}")
        for day in (0, 5, -5, BIG, -BIG):
            self.assert_same(words.write_deed, words.read_deed, ("close", day), f"close {day}")
        for least, most in ((0, 0), (-3, 5), (None, -9), (BIG, None), (-BIG, BIG)):
            ends = " ".join("*" if end is None else str(end) for end in (least, most))
            look, apart = ("look", 0, 12, least, most), ("apart", 1, 0, 0, 11, least, most)
            self.assert_same(words.write_deed, words.read_deed, ("tie", look), f"look 0 12 {ends}")
            self.assert_same(words.write_deed, words.read_deed, ("tie", apart), f"apart 1.0 0.11 {ends}")
        # P.S is told by both numbers: one of them alone may be the same.
        self.assertEqual(words.read_deed("apart 1.0 1.1 0 0")[1][1:5], (1, 0, 1, 1))

    def test_logs_and_terms(self):
        self.assert_same(words.write_log, words.read_log, [], "-")
        for many in range(1, len(LOG) + 1):
            text = " then ".join(words.write_deed(deed) for deed in LOG[:many])
            self.assert_same(words.write_log, words.read_log, LOG[:many], text)
        for kind, number in itertools.product(("days", "open", "months", "end"), (0, 7, BIG)):
            self.assert_same(words.write_term, words.read_term, (kind, number), f"{kind} {number}")

    def test_logs_of_random_deeds(self):
        rolls = random.Random(1)
        for _ in range(300):
            log = [some_deed(rolls) for _ in range(rolls.randint(0, 6))]
            text = words.write_log(log)
            self.assertIsNone(wrong_in_log(text))
            self.assertEqual(words.read_log(text), log)
            self.assertIsNot(words.read_log(text), words.read_log(text))

    def test_forms_alone(self):
        # Whether a deed can be done is not looked at.
        self.assertEqual(words.read_deed("bill 7.9@-44 3"), ("bill", (7, 9, -44), 3))
        self.assertEqual(words.read_log("close 5 then close 5 then look 9 8 0 0")[2], ("tie", ("look", 9, 8, 0, 0)))
        self.assertEqual(words.read_places("5/-"), ((5,), ()))


def some_integer(rolls):
    return rolls.choice([0, 1, -1, rolls.randint(-99, 99), rolls.randint(-BIG, BIG)])


def some_deed(rolls):
    kind = rolls.choice(["bill", "pay", "send", "look", "apart", "close"])
    entries = [(abs(some_integer(rolls)), rolls.randint(0, 9), some_integer(rolls)) for _ in range(2)]
    amount = abs(some_integer(rolls)) or 1
    if kind == "close":
        return (kind, some_integer(rolls))
    if kind in ("bill", "pay"):
        return (kind, entries[0], amount)
    if kind == "send":
        return (kind, *entries, amount)
    ends = rolls.choice([sorted([some_integer(rolls), some_integer(rolls)]), [None, 5], [-5, None], [4, 4]])
    one, other = rolls.sample(range(12), 2)
    return ("tie", (kind, one, other, *ends) if kind == "look" else (kind, one, 0, other, 0, *ends))


class WrongWords(unittest.TestCase):
    def assert_told(self, text, reader, judge):
        """The reader tells the same word as the grammar here, or reads what it takes."""
        place = judge(text)
        try:
            reader(text)
            told = None
        except errors.InvalidWords as error:
            told = error.place
        self.assertEqual(told, place, f"{reader.__name__} {text!r}")
        self.assertTrue(told is None or type(told) is int)
        return place

    def test_each_word_made_another_one(self):
        texts = ["bill 0.0@-5 70", "pay 1.2@3 1", "send 0.0@0 1.0@5 9", "apart 0.0 1.0 -4 4", "look 3 1 0 1", "look 3 1 * 1",
                 "close -3", "-", "days 5", "open 0", "months 2", "end 1", "-/100,300", "bill 0.0@0 1 then close 4",
                 "close 1 then look 0 1 2 * then close 2"]
        seen = {}
        for text in texts:
            told = text.split(" ")
            made = [told[:at] + [word] + told[at + drop:] for at in range(len(told) + 1) for drop in (0, 1)
                    for word in ODD_WORDS] + [told[:at] + told[at + 1:] for at in range(len(told))]
            made += [told[:at] for at in range(1, len(told))] + [told]
            for row, (reader, judge) in itertools.product(made, READERS):
                place = self.assert_told(" ".join(row), reader, judge)
                seen[place] = seen.get(place, 0) + 1
        self.assertTrue(all(seen[place] > 20 for place in [None, *range(6)]), seen)

    def test_missing_words(self):
        for text, place in (("", 0), ("bill", 1), ("bill 0.0@0", 2), ("send 0.0@0 0.0@0", 3), ("look 0 1 2", 4), ("close", 1),
                            ("apart 0.0", 2)):
            self.assertEqual(self.assert_told(text, words.read_deed, wrong_in_deed), place)
            self.assertEqual(self.assert_told(text, words.read_log, wrong_in_log), place)
        self.assertEqual(self.assert_told("close 1 then", words.read_log, wrong_in_log), 3)
        self.assertEqual(self.assert_told("close 1 then close 2 then", words.read_log, wrong_in_log), 6)
        self.assertEqual(self.assert_told("days", words.read_term, wrong_in_term), 1)
        self.assertEqual(self.assert_told("", words.read_term, wrong_in_term), 0)
        self.assertEqual(self.assert_told("", words.read_places, wrong_in_places), 0)

    def test_blanks(self):
        for text, place in ((" close 1", 0), ("close 1 ", 2), ("close  1", 1), (" ", 0), ("  ", 0), ("close ", 1)):
            self.assertEqual(self.assert_told(text, words.read_deed, wrong_in_deed), place)
            self.assertEqual(self.assert_told(text, words.read_log, wrong_in_log), place)
        for text, place in (("- ", 1), (" -", 0), ("- -", 1), ("- then close 1", 1)):
            self.assertEqual(self.assert_told(text, words.read_log, wrong_in_log), place)
        for text, place in (("- ", 1), (" -", 0), ("-/ -", 0), ("- -/-", 1)):
            self.assertEqual(self.assert_told(text, words.read_places, wrong_in_places), place)
        for text, place in (("days 1 ", 2), (" days 1", 0), ("days  1", 1), ("days 1 1", 2)):
            self.assertEqual(self.assert_told(text, words.read_term, wrong_in_term), place)

    def test_the_second_one_of_two(self):
        for text, place in (("look 3 3 x y", 2), ("look 3 03 0 1", 2), ("apart 1.0 1.0 0 1", 2), ("apart 1.0 1.1 0 -1", 4),
                            ("look 1 2 * *", 4), ("look 1 2 5 4", 4), ("look 1 2 5 *", None), ("look 1 2 * -5", None),
                            ("look 1 2 -4 -5", 4), ("look 1 2 0 -0", 4), ("look 1 2 3", 4), ("apart 0.0 0.1 * * x", 4)):
            self.assertEqual(self.assert_told(text, words.read_deed, wrong_in_deed), place)

    def test_turns_that_do_not_ascend_by_two(self):
        for text, place in (("1,3", None), ("1,2", 0), ("1,1", 0), ("3,1", 0), ("-/1,3,4", 0), ("-1,1", None), ("-2,-1", 0),
                            ("-/1,3/5", None), ("-,1", 0), ("1,-", 0), ("--", 0), ("/", 0), ("-/", 0), ("1,", 0), ("-0", 0),
                            ("1;3", 0), ("-/01", 0), ("9" * 30, None), ("9" * 31, 0), ("-" + "9" * 30, None)):
            self.assertEqual(self.assert_told(text, words.read_places, wrong_in_places), place)

    def test_any_value(self):
        for value in (None, True, 5, b"close 1", ("close 1",), ["close", "1"], [], {}, House(((),)), errors.NoBlock("x")):
            for reader, _ in READERS:
                with self.assertRaises(errors.InvalidWords) as caught:
                    reader(value)
                self.assertEqual(caught.exception.place, 0)

    def test_long_texts(self):
        log = [("close", day) for day in range(360)]
        text = words.write_log(log)
        self.assertGreater(len(text), 4000)
        self.assertEqual(words.read_log(text), log)
        self.assertEqual(self.assert_told(text + " then close 1 x", words.read_log, wrong_in_log), 360 * 3 + 2)
        self.assertEqual(self.assert_told("1" * 4000, words.read_deed, wrong_in_deed), 0)
        self.assertEqual(self.assert_told("close " + "1" * 3990, words.read_deed, wrong_in_deed), 1)
        self.assertEqual(self.assert_told(" " * 4000, words.read_log, wrong_in_log), 0)
        places = "/".join(["-"] * 2000)
        self.assertEqual(words.write_places(words.read_places(places)), places)

    def test_each_letter(self):
        for code in range(32, 127):
            for text in (chr(code), "close 1" + chr(code), "close " + chr(code), "look 1 2 3 4" + chr(code)):
                self.assert_told(text, words.read_deed, wrong_in_deed)
                self.assert_told(text, words.read_log, wrong_in_log)
            for text in (chr(code), "-" + chr(code), "-/" + chr(code) + "5", "1" + chr(code) + "5"):
                self.assert_told(text, words.read_places, wrong_in_places)
        self.assertEqual(helper.is_int(words.read_deed("close 7")[1]), True)


if __name__ == "__main__":
    unittest.main()
