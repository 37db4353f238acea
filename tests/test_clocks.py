"""Points [19] to [21]: places, entries, ties, books and their systems."""

import random
import unittest

from dueanywhere import bounds
from dueanywhere import clocks
from dueanywhere import errors
from dueanywhere import worlds
from tests import helper

PAIR = ((), ())
EXAMPLE = (PAIR, ((0, 0, 100), (1, 0, 20), (1, 0, 60)), (("apart", 0, 0, 1, 0, 30, 90),))
TURN = ((), (100,))
DAY_99, DAY_100 = 142560, 144000
OTHERS = (None, True, 0, "", "apart", [], (), [()], [[]], (0,), ((0,),), ((), [1]), ((), (True,)), ((), ("1",)),
          ((), (1, None)), (((),),), {}, ((), 5))


class Places(unittest.TestCase):
    def test_turns_ascend_by_two_days_or_more(self):
        for value in (((),), ((), ()), ((0,),), ((-5, -3),), ((-1, 1, 3), (7,)), ((10 ** 39,), ()), ((0, 2), (0, 2))):
            self.assertIs(clocks.is_places(value), True, value)
        for value in ((), ((0, 1),), ((0, 0),), ((3, 1),), ((0, 2, 3),), ((-1, 0),), [()], ([],), ((), [])):
            self.assertIs(clocks.is_places(value), False, value)

    def test_other_values_are_none(self):
        for value in OTHERS:
            self.assertIs(clocks.is_places(value), helper.is_places(value), value)
        for value in helper.mutants(((), (1, 5), (-2, 0, 9))):
            self.assertIs(clocks.is_places(value), helper.is_places(value), value)


class Entries(unittest.TestCase):
    def test_the_own_day_lies_in_the_stretch_or_a_day_ahead_of_it(self):
        places = ((), (100, 102))
        for entry in ((0, 0, -10 ** 30), (0, 0, 10 ** 30), (1, 0, -10 ** 12), (1, 0, DAY_100 - 1), (1, 1, DAY_99),
                      (1, 1, 1440 * 102 - 1), (1, 2, 1440 * 101), (1, 2, 10 ** 12)):
            self.assertIs(clocks.is_entry(places, entry), True, entry)
        for entry in ((0, 1, 0), (2, 0, 0), (-1, 0, 0), (0, -1, 0), (1, 0, DAY_100), (1, 1, DAY_99 - 1),
                      (1, 1, 1440 * 102), (1, 2, 1440 * 101 - 1), (1, 3, 10 ** 12)):
            self.assertIs(clocks.is_entry(places, entry), False, entry)

    def test_readings_below_0(self):
        places = ((-2,),)
        told = {(0, 0, -2881): True, (0, 0, -2880): False, (0, 1, -4320): True, (0, 1, -4321): False, (0, 1, -1): True}
        for entry, right in told.items():
            self.assertIs(clocks.is_entry(places, entry), right, entry)

    def test_other_values_are_none(self):
        for places in (((),), ((), (100, 102)), ((0,), (-1,))):
            for value in OTHERS:
                self.assertIs(clocks.is_entry(places, value), False, value)
            for entry in ((0, 0, 5), (1, 1, 144100), (0, 1, -1440)):
                for value in helper.mutants(entry):
                    self.assertIs(clocks.is_entry(places, value), helper.is_entry(places, value), value)


class Ties(unittest.TestCase):
    def test_stretches(self):
        book = (TURN, (), ())
        for tie in (("apart", 0, 0, 1, 0, 3, 3), ("apart", 1, 0, 1, 1, None, -5), ("apart", 1, 1, 1, 0, -9, None),
                    ("apart", 1, 1, 0, 0, -10 ** 30, 10 ** 30)):
            self.assertIs(clocks.is_tie(book, tie), True, tie)
        for tie in (("apart", 0, 0, 0, 0, 3, 3), ("apart", 1, 1, 1, 1, None, 0), ("apart", 0, 1, 1, 0, 3, 3),
                    ("apart", 1, 2, 0, 0, 3, 3), ("apart", 2, 0, 0, 0, 3, 3), ("apart", 0, 0, 1, 0, 4, 3),
                    ("apart", 0, 0, 1, 0, None, None), ("apart", 0, 0, 1, 0, False, 3), ("apart", 0, 0, 1, 0, 0, True),
                    ("apart", 0, 0, 1, 0, "0", None), ("apart", 0, 0, 1, 0, 3), ("look", 0, 0, 1, 0, 3, 3),
                    ("Apart", 0, 0, 1, 0, 3, 3), ["apart", 0, 0, 1, 0, 3, 3], ("apart", True, 0, 0, 0, 3, 3)):
            self.assertIs(clocks.is_tie(book, tie), False, tie)

    def test_looks(self):
        book = (TURN, ((0, 0, 5), (0, 0, 5), (1, 0, 7)), (("look", 0, 1, 0, 0),))
        for tie in (("look", 0, 1, 3, 3), ("look", 2, 0, None, -5), ("look", 1, 0, 0, None)):
            self.assertIs(clocks.is_tie(book, tie), True, tie)
        for tie in (("look", 0, 0, 3, 3), ("look", 0, 3, 3, 3), ("look", -1, 0, 3, 3), ("look", 0, 1, 3, 2),
                    ("look", 0, 1, None, None), ("look", 0, True, 0, 0), ("look", 0, 1, 0), ("apart", 0, 1, 0, 0),
                    ("look", 0, 1, 0, 0, 0), ("look", 0, 1, 1, True), ("looks", 0, 1, 0, 0), (None, 0, 1, 0, 0)):
            self.assertIs(clocks.is_tie(book, tie), False, tie)

    def test_other_values_are_none(self):
        for tie in (("look", 1, 2, -3, None), ("apart", 0, 0, 1, 1, None, 4), ("apart", 1, 0, 1, 1, 2, 4)):
            for value in list(OTHERS) + list(helper.mutants(tie)):
                self.assertIs(clocks.is_tie(helper.BOOK, value), helper.is_tie(helper.BOOK, value), value)


class Books(unittest.TestCase):
    def test_they_have_three_parts(self):
        for value in ((((),), (), ()), EXAMPLE, helper.BOOK, helper.BROKEN_BOOK, helper.VOID_BOOK,
                      helper.large_book(1)[0]):
            self.assertIs(clocks.is_book(value), True, value)
        for value in (((), (), ()), (PAIR, ()), (PAIR, (), (), ()), [PAIR, (), ()], (PAIR, [], ()), (PAIR, (), []),
                      (PAIR, (), (("look", 0, 1, 0, 0),)), (PAIR, ((0, 1, 0),), ()), (TURN, ((1, 0, DAY_100),), ())):
            self.assertIs(clocks.is_book(value), False, value)

    def test_other_values_are_none(self):
        for value in list(OTHERS) + list(helper.mutants(helper.BOOK)):
            self.assertIs(clocks.is_book(value), helper.is_book(value), value)

    def test_one_more_entry_or_tie(self):
        entry, tie = (1, 1, DAY_100), ("look", 2, 0, -4, None)
        places, entries, ties = helper.BOOK
        self.assertEqual(clocks.with_entry(helper.BOOK, entry), (places, entries + (entry,), ties))
        self.assertEqual(clocks.with_tie(helper.BOOK, tie), (places, entries, ties + (tie,)))
        self.assertEqual(clocks.with_tie(clocks.with_entry(helper.VOID_BOOK, entry), ("look", 4, 0, 0, 0))[2][-1],
                         ("look", 4, 0, 0, 0))
        with self.assertRaises(errors.InvalidTie):
            clocks.with_tie(helper.BOOK, ("look", 4, 0, 0, 0))
        with self.assertRaises(errors.InvalidEntry):
            clocks.with_entry(helper.BOOK, (1, 1, DAY_99 - 1))


class Systems(unittest.TestCase):
    def test_the_examples(self):
        told = [clocks.points_of(EXAMPLE), clocks.system_of(EXAMPLE), clocks.spot_of(EXAMPLE, 1),
                clocks.mark_of(EXAMPLE, 1, 2), clocks.apart(EXAMPLE, 0, 1), clocks.moment(EXAMPLE, (0, 40), 2)]
        self.assertEqual(told, [[("nought", 0, 0), ("nought", 1, 0)], (2, ((1, 0, 90), (0, 1, -30))), (1, 20),
                                (1, 2880), (-50, 10), 100])
        self.assertEqual(clocks.points_of((TURN, (), ())),
                         [("nought", 0, 0), ("nought", 1, 0), ("nought", 1, 1), ("change", 1, 0)])
        self.assertEqual(clocks.system_of((TURN, ((1, 1, 142590),), ())),
                         (4, ((1, 3, -142560), (3, 2, 144000), (3, 2, 142590))))

    def test_the_sequence_of_points(self):
        told = [("nought", 0, 0), ("nought", 0, 1), ("nought", 0, 2), ("nought", 1, 0), ("nought", 2, 0),
                ("nought", 2, 1), ("change", 0, 0), ("change", 0, 1), ("change", 2, 0)]
        self.assertEqual(clocks.points_of((((3, 8), (), (0,)), (), ())), told)
        self.assertEqual(clocks.points_of((((),), (), ())), [("nought", 0, 0)])

    def test_the_sequence_of_bounds(self):
        places = ((3, 8), (), (0,))
        entries = ((0, 1, 5000), (2, 0, -1), (1, 0, 7), (0, 2, 11520), (2, 1, -1440), (0, 1, 5100))
        ties = (("apart", 0, 0, 2, 1, -4, 9), ("look", 0, 5, 50, None), ("look", 3, 2, None, 6), ("look", 1, 3, -2, 6),
                ("apart", 2, 1, 2, 0, None, 77), ("apart", 1, 0, 0, 2, 88, None))
        # Noughts: place 0 has 0, 1, 2; place 1 has 3; place 2 has 4, 5. Changes: place 0 has 6, 7; place 2 has 8.
        of_changes = ((0, 6, -2880), (6, 1, 4320), (1, 7, -10080), (7, 2, 11520), (4, 8, 1440), (8, 5, 0))
        of_entries = ((6, 1, 5000), (1, 7, -5001), (4, 8, 0), (7, 2, 11520), (8, 5, -1440), (6, 1, 5100), (1, 7, -5101))
        of_ties = ((5, 0, 9), (0, 5, 4), (3, 2, 6 - 7 + 11520), (2, 4, 6 - 11520 - 1), (4, 2, 2 + 11520 + 1),
                   (4, 5, 77), (3, 2, -88))
        self.assertEqual(clocks.system_of((places, entries, ties)), (9, of_changes + of_entries + of_ties))

    def test_marks_and_spots(self):
        book = (((3, 8), (), (0,)), ((2, 1, -1440), (0, 2, 11520)), ())
        marks = {(0, 2): (0, 2880), (0, 3): (1, 4320), (0, 7): (1, 10080), (0, 8): (2, 11520), (0, -5): (0, -7200),
                 (0, 10 ** 12): (2, 1440 * 10 ** 12), (1, 0): (3, 0), (2, -1): (4, -1440), (2, 0): (5, 0),
                 (2, 1): (5, 1440)}
        for (place, day), told in marks.items():
            self.assertEqual(clocks.mark_of(book, place, day), told)
        self.assertEqual([clocks.spot_of(book, 0), clocks.spot_of(book, 1)], [(5, -1440), (2, 11520)])

    def test_points_spots_and_marks_by_their_words(self):
        for book in helper.some_books(11, 200):
            numbers = helper.points_of(book)
            self.assertEqual(clocks.points_of(book), list(numbers))
            self.assertEqual(clocks.system_of(book)[0], len(numbers))
            for number, (place, stretch, reading) in enumerate(book[1]):
                self.assertEqual(clocks.spot_of(book, number), (numbers["nought", place, stretch], reading))
            for place, turns in enumerate(book[0]):
                for day in [0] + [turn + more for turn in turns for more in (-2, -1, 0, 1)]:
                    stretch = max([0] + [k + 1 for k, turn in enumerate(turns) if turn <= day])
                    self.assertEqual(clocks.mark_of(book, place, day), (numbers["nought", place, stretch], 1440 * day))

    def test_worlds_are_those_of_the_words(self):
        rolls = random.Random(12)
        books = [book for book, _ in helper.tight_books(13, 150)] + helper.some_books(14, 300)
        seen = {True: 0, False: 0}
        for book in books:
            system = clocks.system_of(book)
            void = helper.is_void(book)
            world = None if bounds.bad_ring(system) else worlds.some_world(system)
            if world is None or void:
                self.assertIsNotNone(clocks.book_bar(book))
                continue
            for _ in range(20):
                tried = (0,) + tuple(when + rolls.choice([0, 0, 0, -1, 1]) for when in world[1:])
                right = helper.keeps_book(book, tried)
                self.assertIs(worlds.is_world(system, tried), right)
                seen[right] += 1
        self.assertGreater(min(seen.values()), 500)

    def test_all_worlds_of_small_books(self):
        tried = 0
        for book, world in helper.tight_books(15, 150):
            found = helper.few_worlds(clocks.system_of(book), 500)
            if found:
                tried += 1
                self.assertIn(world, found)
                self.assertTrue(all(helper.keeps_book(book, told) for told in found))
                for point in range(1, len(world)):
                    for edge in (min(found, key=lambda told: told[point]), max(found, key=lambda told: told[point])):
                        for way in (-1, 1):
                            beside = edge[:point] + (edge[point] + way,) + edge[point + 1:]
                            self.assertEqual(helper.keeps_book(book, beside), beside in found)
        self.assertGreater(tried, 80)

    def test_ties_with_one_end(self):
        base = (PAIR, ((0, 0, 10), (1, 0, 30)), ())
        told = {("apart", 0, 0, 1, 0, 7, None): ((0, 1, -7),), ("apart", 0, 0, 1, 0, None, 7): ((1, 0, 7),),
                ("apart", 1, 0, 0, 0, 7, 8): ((0, 1, 8), (1, 0, -7)), ("look", 0, 1, None, 5): ((1, 0, -15),),
                ("look", 0, 1, 5, None): ((0, 1, 15),), ("look", 1, 0, 5, 6): ((0, 1, 26), (1, 0, -25))}
        for tie, right in told.items():
            self.assertEqual(clocks.system_of(clocks.with_tie(base, tie)), (2, right))


class VoidBooks(unittest.TestCase):
    ENTRIES = ((0, 0, 100), (1, 0, 20), (1, 0, 60), (1, 0, 20))

    def book(self, *ties):
        return (PAIR, self.ENTRIES, ties)

    def test_true_looks_in_one_stretch_add_nothing(self):
        for tie in (("look", 1, 2, 40, 40), ("look", 1, 2, None, 40), ("look", 2, 1, -40, None), ("look", 1, 3, 0, 0),
                    ("look", 1, 2, -3, 99)):
            book = self.book(tie)
            self.assertEqual(clocks.system_of(book), (2, ()))
            self.assertIsNone(clocks.book_bar(book))
            self.assertEqual(clocks.apart(book, 1, 2), (40, 40))

    def test_untrue_looks_make_a_book_void(self):
        for tie in (("look", 1, 2, 41, None), ("look", 1, 2, None, 39), ("look", 2, 1, -39, None), ("look", 1, 3, 1, 5),
                    ("look", 1, 2, -40, -40)):
            book = self.book(("apart", 0, 0, 1, 0, 1, None), tie, ("look", 0, 1, None, 5))
            self.assertEqual(clocks.system_of(book), (2, ((0, 1, -1), (1, 0, 85))))
            self.assertEqual(clocks.book_bar(book), [])
            with self.assertRaises(errors.NoWorld) as caught:
                clocks.apart(book, 0, 1)
            self.assertEqual(caught.exception.ring, [])
            self.assertEqual(clocks.spot_of(book, 1), (1, 20))
            self.assertEqual(clocks.mark_of(book, 1, 2), (1, 2880))
            self.assertEqual(clocks.points_of(book), [("nought", 0, 0), ("nought", 1, 0)])

    def test_a_void_book_has_the_empty_list_though_there_is_a_bad_ring(self):
        book = self.book(("apart", 0, 0, 1, 0, 5, None), ("apart", 1, 0, 0, 0, -4, None), ("look", 1, 2, 0, 0))
        self.assertEqual(sorted(bounds.bad_ring(clocks.system_of(book))), [0, 1])
        self.assertEqual(clocks.book_bar(book), [])
        told = clocks.book_bar(self.book(*book[2][:2]))
        self.assertEqual(sorted(told), [0, 1])

    def test_an_entry_of_a_void_book_has_no_moment(self):
        book = self.book(("apart", 0, 0, 1, 0, 5, 9), ("look", 1, 2, 0, 0))
        with self.assertRaises(errors.NoWorld) as caught:
            clocks.moment(book, (0, 7), 2)
        self.assertEqual(caught.exception.ring, [])
        for world in ((0, 4), (0, 10), (1, 7), (0,), None, [0, 7], (0, 7, 0), (0, True)):
            with self.assertRaises(errors.InvalidWorld):
                clocks.moment(book, world, 4)
        for number in (4, -1, None, True):
            with self.assertRaises(errors.InvalidIndex):
                clocks.moment(book, (0, 7), number)

    def test_two_stretches_of_one_place_are_no_single_one(self):
        book = (TURN, ((1, 0, DAY_100 - 1), (1, 1, DAY_100)), (("look", 0, 1, -5, -5),))
        self.assertFalse(helper.is_void(book))
        ring = clocks.book_bar(book)
        self.assertTrue(helper.is_bad_ring(clocks.system_of(book), ring))

    def test_bars_by_the_words(self):
        seen = {"void": 0, "ring": 0, "world": 0}
        for book in helper.some_books(21, 600):
            bar = clocks.book_bar(book)
            system = clocks.system_of(book)
            if helper.is_void(book):
                seen["void"] += 1
                self.assertEqual(bar, [])
            elif bar is None:
                seen["world"] += 1
                self.assertTrue(helper.keeps_book(book, worlds.some_world(system)))
            else:
                seen["ring"] += 1
                self.assertTrue(helper.is_bad_ring(system, bar))
        self.assertGreater(min(seen.values()), 50)


class Moments(unittest.TestCase):
    def test_gaps_of_entries_over_all_worlds(self):
        tried = 0
        for book, _ in helper.tight_books(31, 150):
            found = helper.few_worlds(clocks.system_of(book), 800)
            if not found:
                continue
            tried += 1
            for a in range(len(book[1])):
                for b in range(len(book[1])):
                    gaps = [helper.entry_in(book, told, b) - helper.entry_in(book, told, a) for told in found]
                    self.assertEqual(clocks.apart(book, a, b), (min(gaps), max(gaps)))
                told = random.Random(32).choice(found)
                self.assertEqual(clocks.moment(book, told, a), helper.entry_in(book, told, a))
        self.assertGreater(tried, 80)

    def test_gaps_without_an_end(self):
        book = (((), (), ()), ((0, 0, 5), (1, 0, 5), (2, 0, 5)), (("apart", 0, 0, 1, 0, 3, None),
                                                               ("look", 2, 0, None, 8)))
        self.assertEqual(clocks.apart(book, 0, 1), (3, None))
        self.assertEqual(clocks.apart(book, 1, 0), (None, -3))
        self.assertEqual(clocks.apart(book, 2, 0), (None, 8))
        self.assertEqual(clocks.apart(book, 2, 1), (None, None))
        self.assertEqual(clocks.apart(book, 2, 2), (0, 0))

    def test_large_books(self):
        for seed in range(6):
            book, world = helper.large_book(seed)
            system = clocks.system_of(book)
            self.assertEqual((len(book[1]), len(book[2]), system[0]), (48, 40, 54))
            self.assertTrue(helper.keeps_book(book, world))
            self.assertTrue(worlds.is_world(system, world))
            self.assertIsNone(clocks.book_bar(book))
            gaps = helper.table_by_passing(system)
            for a, b in ((0, 47), (13, 30), (7, 5), (21, 21)):
                (i, r), (j, s) = clocks.spot_of(book, a), clocks.spot_of(book, b)
                right = tuple(None if gap is None else s - r + sign * gap
                              for sign, gap in ((-1, gaps[i][j]), (1, gaps[j][i])))
                self.assertEqual(clocks.apart(book, a, b), right)
                self.assertEqual(clocks.moment(book, world, a), helper.entry_in(book, world, a))
            broken = clocks.with_tie(clocks.with_tie(book, ("look", 3, 40, 5, None)), ("look", 40, 3, -4, None))
            self.assertTrue(helper.is_bad_ring(clocks.system_of(broken), clocks.book_bar(broken)))


if __name__ == "__main__":
    unittest.main()
