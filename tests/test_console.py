"""Point [60]: each command of the console, in each state, beside the house that it speaks of."""

import inspect
import itertools
import random
import unittest

from dueanywhere import errors
from dueanywhere import words
from dueanywhere.console import Console
from dueanywhere.house import House
from dueanywhere.house import StrictHouse
from tests import helper
from tests.test_house import some_deed
from tests.test_house import tied_house

PLACES = "-/-"
DEEDS = ["bill 0.0@0 70", "pay 1.0@20 30", "send 0.0@5 1.0@9 4", "apart 0.0 1.0 30 90", "look 0 1 5 *", "close 0"]
ASKS = ["day 0 0", "arrears 0 1", "flight 1 1", "report 0", "present 0", "rest", "cleared 0 0 1", "late days 3", "log"]
STEPS = ["undo", "begin", "keep", "drop"]
WRONG = ["", " ", "rest ", " rest", "rest  ", "rest 1", "log -", "undo 1", "begin 0", "keep keep", "Rest", "places", "places ",
         "places  -", "places - -", "places 1,2", "places -/", "places -0", "place -", "day", "day 0", "day 0 0 0", "day -1 0",
         "day 0 -1", "day * 0", "day 00 0", "day 0  0", "day 0 0 ", "arrears 0", "arrears -1 0", "arrears 0 -0", "arrears 0 *",
         "arrears 0 1 1", "flight 0", "flight x 0", "flight 0 1.5", "report", "report 0 0", "report *", "report 01",
         "report -", "present", "present 0 0", "present x", "cleared 0 0", "cleared 0 0 0 0", "cleared -1 0 0", "cleared 0 -1 0",
         "cleared 0 0 -0", "late", "late days", "late days -1", "late weeks 1", "late days 1 1", "late -", "late  days 1",
         "bill 0.0@0", "bill 0.0@0 0", "bill 0.0@0 1 1", "pay 0.0 5", "send 0.0@0 5", "look 0 0 1 1", "look 0 1 * *",
         "apart 0.0 0.0 1 1", "close", "close *", "close 1 then close 2", "close 1 then", "-", "tie 0 1 0 1", "then",
         "report " + "1" * 31, "day " + "1" * 31 + " 0", "close " + "1" * 31, "late days " + "1" * 31, "rest\n", "\trest",
         "cleared", "flight", "arrears", "days 1", "read 1", "x" * 4000, " " * 4000]
NO_TEXTS = [None, True, 5, ("rest",), ["rest"], b"rest", House(((),)), errors.NoBlock("x"), Console()]


def outcome(call):
    try:
        return ("returns", call())
    except errors.DueError as error:
        return ("raises", type(error), vars(error))


def written(told):
    """A range by the words of point [60]."""
    if told[0] is not None and told[0] == told[1]:
        return str(told[0])
    return "..".join("*" if end is None else str(end) for end in told)


def by_house(house, command):
    """What a command is answered, by a house."""
    name, *rest = command.split(" ")
    if name in ("bill", "pay", "send", "look", "apart", "close"):
        kind, *parts = words.read_deed(command)
        return str(getattr(house, kind)(*parts))
    if name == "undo":
        return words.write_deed(house.undo())
    if name in ("begin", "keep", "drop"):
        getattr(house, name)()
        return "ok"
    if name == "log":
        return words.write_log(house.log)
    if name == "late":
        return " ".join(house.late(words.read_term(" ".join(rest)), ())) or "-"
    if name == "cleared":
        return house.cleared(*map(int, rest))
    method = {"day": "day_range", "arrears": "arrears", "flight": "in_flight", "report": "report", "present": "present",
              "rest": "rest"}[name]
    return written(getattr(house, method)(*map(int, rest)))


class Examples(unittest.TestCase):
    def test_all_of_them(self):
        console = Console()
        told = [console.execute(command) for command in ["places -/-", "apart 0.0 1.0 30 90", "bill 0.0@0 70",
                                                         "pay 1.0@20 30", "arrears 0 1", "day 1 0", "log"]]
        self.assertEqual(told, ["ok", "0", "0", "0", "40", "0", "apart 0.0 1.0 30 90 then bill 0.0@0 70 then pay 1.0@20 30"])

    def test_the_interface(self):
        self.assertEqual(list(inspect.signature(Console).parameters), [])
        self.assertIn("execute", vars(Console))
        self.assertEqual(list(inspect.signature(Console().execute).parameters), ["command"])
        self.assertEqual(Console().execute(command="places -"), "ok")


class Commands(unittest.TestCase):
    def test_what_is_no_command(self):
        for console in self.consoles():
            log = outcome(lambda: console.execute("log"))
            for command in WRONG + NO_TEXTS:
                self.assertRaises(errors.InvalidCommand, console.execute, command)
            self.assertEqual(outcome(lambda: console.execute("log")), log)

    def consoles(self):
        """A console without a house, with one, and within a block with nothing to take back."""
        bare, done, block = Console(), Console(), Console()
        for command in ["places -/-", DEEDS[3], DEEDS[0], DEEDS[1], DEEDS[5]]:
            done.execute(command)
            block.execute(command)
        block.execute("begin")
        return [bare, done, block]

    def test_without_a_house(self):
        console = Console()
        for command in DEEDS + ASKS + STEPS + ["look 9 8 0 0", "day 9 9", "cleared 9 9 9", "report 9"]:
            self.assertRaises(errors.NotReady, console.execute, command)
        self.assertRaises(errors.InvalidPlaces, console.execute, "places 5")
        self.assertRaises(errors.InvalidPlaces, console.execute, "places 5,9/-")
        self.assertRaises(errors.NotReady, console.execute, "log")
        self.assertEqual(console.execute("places -/5"), "ok")
        self.assertEqual(console.execute("log"), "-")

    def test_each_command_answers_as_the_house(self):
        for commands in ([], ["begin"], [DEEDS[3]], DEEDS[3:4] + DEEDS[:2], DEEDS[3:4] + DEEDS[:2] + ["close 0", "begin"],
                         DEEDS[3:4] + DEEDS[:3] + ["close 0", "begin", "bill 0.0@7 5", "begin"]):
            for command in DEEDS + ASKS + STEPS:
                console, house = Console(), House(((), ()))
                console.execute("places -/-")
                for step in commands + [command] + ASKS + ["undo"]:
                    told = outcome(lambda: console.execute(step))
                    self.assertEqual(told, outcome(lambda: by_house(house, step)), f"{commands} {step}")
                    self.assertTrue(told[0] == "raises" or type(told[1]) is str)

    def test_long_talks(self):
        for seed in range(40):
            rolls = random.Random(seed)
            house, console = tied_house(rolls), Console()
            self.assertEqual(console.execute("places " + words.write_places(house.places)), "ok")
            for deed in house.log:
                console.execute(words.write_deed(deed))
            for _ in range(25):
                step = rolls.choice([words.write_deed(some_deed(rolls, house)), rolls.choice(STEPS), self.ask(rolls)])
                self.assertEqual(outcome(lambda: console.execute(step)), outcome(lambda: by_house(house, step)), step)
                self.assertEqual(console.execute("log"), words.write_log(house.log))

    def ask(self, rolls):
        number, place, day = rolls.randint(0, 6), rolls.randint(0, 3), rolls.randint(-1, 4)
        return rolls.choice([f"day {number} {place}", f"arrears {place} {day}", f"flight {place} {day}", f"report {day}",
                             f"present {day}", "rest", f"cleared {number} {place} {day}", "late open 0", "log"])

    def test_a_new_house_in_the_place_of_an_earlier_one(self):
        console = Console()
        for command in ["places -/-", "bill 0.0@0 70", "begin", "bill 0.0@9 70"]:
            console.execute(command)
        self.assertRaises(errors.InvalidPlaces, console.execute, "places 7")
        self.assertEqual(console.execute("log"), "bill 0.0@0 70 then bill 0.0@9 70")
        self.assertEqual(console.execute("undo"), "bill 0.0@9 70")
        self.assertRaises(errors.NothingToUndo, console.execute, "undo")
        self.assertEqual([console.execute("places -"), console.execute("log")], ["ok", "-"])
        self.assertRaises(errors.NoBlock, console.execute, "keep")
        self.assertRaises(errors.NothingToUndo, console.execute, "undo")

    def test_the_house_is_never_a_strict_one(self):
        console, strict = Console(), StrictHouse(((),))
        strict.close(5)
        self.assertRaises(errors.TooLate, strict.bill, (0, 0, 0), 1)
        self.assertEqual([console.execute(command) for command in ("places -", "close 5", "bill 0.0@0 1")], ["ok", "0", "0"])

    def test_ranges(self):
        console = Console()
        for command in ("places -/-/-", "apart 0.0 2.0 * 5", "bill 0.0@1439 4", "pay 1.0@0 3", "pay 2.0@9 8"):
            console.execute(command)
        for command, answer in (("day 0 0", "0"), ("day 1 0", "*..*"), ("day 2 0", "*..0"), ("day 0 2", "0..*"),
                                ("arrears 0 1", "-7..-4"), ("arrears 0 0", "-11..0"), ("flight 0 1", "0"), ("rest", "-7"),
                                ("cleared 0 0 1", "sure"), ("late days 0", "never"), ("cleared 0 0 0", "never"),
                                ("close -1", "0"), ("report -1", "-11..0"), ("rest", "-7..4"), ("present -1", "-11..0")):
            self.assertEqual(console.execute(command), answer, command)

    def test_reports_and_what_is_known_now(self):
        console = Console()
        for command in ("places -/-", "pay 1.0@20 5", "close 0", "apart 0.0 1.0 2000 *"):
            console.execute(command)
        self.assertEqual([console.execute(command) for command in ("report 0", "present 0", "rest")], ["-5..0", "0", "-5"])

    def test_words_of_bills(self):
        console = Console()
        console.execute("places -")
        self.assertEqual(console.execute("late end 0"), "-")
        for command in ("bill 0.0@500 7", "bill 0.0@100 5", "pay 0.0@600 5", "bill 0.0@50 1"):
            console.execute(command)
        self.assertEqual(console.execute("late days 0"), "sure sure never")
        self.assertEqual(console.execute("cleared 2 0 1"), "sure")

    def test_errors_of_what_commands_do(self):
        for console in self.consoles()[1:]:
            for command, error in (("day 2 0", errors.InvalidIndex), ("day 0 2", errors.InvalidPlace),
                                   ("arrears 2 0", errors.InvalidPlace), ("flight 2 0", errors.InvalidPlace),
                                   ("report 1", errors.InvalidDay), ("present -1", errors.InvalidDay),
                                   ("cleared 1 0 0", errors.InvalidIndex), ("cleared 0 2 0", errors.InvalidPlace),
                                   ("bill 1.0@0 5", errors.InvalidEntry), ("pay 0.1@0 5", errors.InvalidEntry),
                                   ("look 0 2 0 1", errors.InvalidTie), ("apart 0.0 2.0 0 1", errors.InvalidTie),
                                   ("close 0", errors.InvalidDay), ("apart 0.0 1.0 91 *", errors.Contradicted)):
                self.assertRaises(error, console.execute, command)
        self.assertRaises(errors.NothingToUndo, console.execute, "undo")

    def test_consoles_do_not_share_houses(self):
        one, other = Console(), Console()
        one.execute("places -")
        self.assertRaises(errors.NotReady, other.execute, "log")
        other.execute("places -")
        one.execute("close 1")
        self.assertEqual([one.execute("log"), other.execute("log")], ["close 1", "-"])

    def test_large_talks(self):
        console = Console()
        console.execute("places -/-")
        console.execute("apart 0.0 1.0 0 100")
        for k in range(59):
            self.assertEqual(console.execute(f"close {k}"), str(k))
        for place, day in itertools.product(range(2), range(-250, 250)):
            self.assertEqual(console.execute(f"arrears {place} {day}"), "0")
        self.assertEqual(len(words.read_log(console.execute("log"))), 60)
        self.assertEqual(helper.is_int(int(console.execute("rest"))), True)


if __name__ == "__main__":
    unittest.main()
