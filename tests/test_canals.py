"""The points [10], [11] and [12]: canals, rows and days."""

import unittest
from itertools import product

from poundmeets import canals
from poundmeets.errors import Barred, NoDay, NoRow
from poundmeets.tables import table_of
from tests import plain

UP0, UP1 = ("up", 0, 0), ("up", 0, 1)
DOWN0, DOWN1 = ("down", 0, 0), ("down", 0, 1)


class IsCanal(unittest.TestCase):
    def test_all_within_the_bounds(self):
        for canal in product(range(1, 6), range(5), range(5)):
            self.assertIs(canals.is_canal(canal), True, canal)

    def test_one_beyond_each_bound(self):
        for canal in (
            (0, 1, 1), (6, 1, 1), (-1, 1, 1), (2, -1, 1), (2, 5, 1), (2, 1, -1), (2, 1, 5),
            (10 ** 12 - 1, 1, 1), (2, 10 ** 12 - 1, 1), (2, 1, 1 - 10 ** 12),
        ):
            self.assertIs(canals.is_canal(canal), False, canal)

    def test_truths_are_no_numbers(self):
        for canal in (
            (True, 1, 1), (2, True, 1), (2, 1, True), (2, False, 1), (2, 1, False),
            (True, True, True),
        ):
            self.assertIs(canals.is_canal(canal), False, canal)

    def test_other_kinds(self):
        for thing in (
            [2, 1, 1], (2, 1), (2, 1, 1, 1), (), ((2, 1, 1),), "211", ("2", 1, 1),
            (2, None, 1), (2, [1], 1), (2, 1, {}), {0: 2, 1: 1, 2: 1}, None, 2, True,
        ):
            self.assertIs(canals.is_canal(thing), False, thing)


class Rows(unittest.TestCase):
    def test_row_of_none(self):
        for canal in plain.SMALL + (plain.GREATEST,):
            locks, ups, downs = canal
            self.assertIsNone(canals.first_bar(canal, ()))
            self.assertEqual(canals.pounds(canal, ()), ((0,) * ups, (locks,) * downs))
            first = tuple(
                [("down", 0, locks - 1)] * min(downs, 1) + [("up", 0, 0)] * min(ups, 1)
            )
            self.assertEqual(canals.next_ones(canal, ()), first)

    def test_first_bar(self):
        for canal, row, bar in (
            ((2, 1, 1), (UP0, UP1), None),
            ((2, 1, 1), (UP1,), 0),
            ((2, 1, 1), (UP0, UP0), 1),
            ((2, 1, 1), (UP0, DOWN1, DOWN1, UP0), 2),
            ((2, 1, 1), (DOWN0,), 0),
            ((2, 1, 1), (DOWN1, DOWN0, UP0, UP1), None),
            ((2, 2, 0), (("up", 1, 0),), 0),
            ((2, 2, 0), (UP0, ("up", 1, 0), ("up", 1, 1)), 2),
            ((2, 2, 0), (UP0, ("up", 1, 0), UP1, ("up", 1, 1)), None),
            ((2, 0, 2), (DOWN1, ("down", 1, 1), ("down", 1, 0)), 2),
            ((2, 0, 2), (("down", 1, 1),), 0),
        ):
            self.assertEqual(canals.first_bar(canal, row), bar, row)

    def test_boats_of_unlike_ways_do_not_hinder(self):
        row = (UP0, DOWN1, UP1, DOWN0)
        self.assertIsNone(canals.first_bar((2, 1, 1), row))
        self.assertEqual(canals.pounds((2, 1, 1), row), ((2,), (0,)))

    def test_boats_of_one_way_in_one_pound(self):
        row = (("up", 0, 0), ("up", 1, 0), ("up", 2, 0))
        self.assertEqual(canals.pounds((2, 3, 1), row), ((1, 1, 1), (2,)))
        self.assertEqual(canals.next_ones((2, 3, 1), row), (("down", 0, 1), ("up", 0, 1)))

    def test_a_row_of_eighty_and_more(self):
        for many in (80, 81, 400):
            row = (UP0,) * many
            self.assertEqual(canals.first_bar((2, 1, 1), row), 1)
            with self.assertRaises(Barred):
                canals.pounds((2, 1, 1), row)
            with self.assertRaises(NoRow):
                canals.first_bar((2, 1, 1), row + (("up", 1, 0),))

    def test_every_row_of_three(self):
        for canal in ((2, 1, 1), (1, 2, 1), (3, 0, 2), (2, 2, 0)):
            kinds = [
                (way, boat, lock)
                for way, many in (("up", canal[1]), ("down", canal[2]))
                for boat in range(many)
                for lock in range(canal[0])
            ]
            for row in product(kinds, repeat=3):
                self.check_row(canal, row)

    def check_row(self, canal, row):
        let = [plain.state_behind(canal, row[:at + 1]) is not None for at in range(len(row))]
        bar = let.index(False) if False in let else None
        self.assertEqual(canals.first_bar(canal, row), bar, row)
        if bar is None:
            state = plain.state_behind(canal, row)
            self.assertEqual(canals.pounds(canal, row), plain.pounds_of(canal, state))
            found = tuple(sorted(passing for passing, _ in plain.choices(canal, state)))
            self.assertEqual(canals.next_ones(canal, row), found)
        else:
            with self.assertRaises(Barred):
                canals.pounds(canal, row)
            with self.assertRaises(Barred):
                canals.next_ones(canal, row)

    def test_along_days_of_the_greatest_canal(self):
        canal = plain.GREATEST
        for day in plain.some_days(canal, 12, 1):
            for at in range(len(day) + 1):
                self.check_row(canal, day[:at])
            self.assertEqual(canals.next_ones(canal, day), ())
            self.assertEqual(canals.first_bar(canal, day + day), len(day))

    def test_the_first_of_several_bars(self):
        self.assertEqual(canals.first_bar((2, 1, 1), (UP0, UP0, DOWN0, UP0)), 1)


class Days(unittest.TestCase):
    def test_all_days_of_small_canals(self):
        for canal in plain.SMALL:
            days = plain.all_days(canal)
            self.assertEqual(canals.many_days(canal), len(days), canal)
            self.assertEqual(canals.least_day(canal), days[0], canal)
            for day in days[:300]:
                self.assertIs(canals.is_day(canal, day), True)

    def test_just_those_rows_are_days(self):
        for canal in ((2, 1, 1), (1, 2, 1), (2, 2, 0), (2, 0, 2)):
            days = plain.all_days(canal)
            passings = sorted(set(days[0]))
            for row in product(passings, repeat=len(passings)):
                self.assertIs(canals.is_day(canal, row), row in days)

    def test_canals_without_boats(self):
        for locks in range(1, 6):
            self.assertEqual(canals.many_days((locks, 0, 0)), 1)
            self.assertEqual(canals.least_day((locks, 0, 0)), ())
            self.assertIs(canals.is_day((locks, 0, 0), ()), True)
            self.assertIs(canals.is_day((locks, 0, 0), []), False)
            self.assertIs(canals.is_day((locks, 1, 0), ()), False)

    def test_things_that_are_no_days(self):
        day = (DOWN1, DOWN0, UP0, UP1)
        canal = (2, 1, 1)
        self.assertIs(canals.is_day(canal, day), True)
        for thing in (
            day[:-1], day[1:], day + (UP0,), day + day, list(day), (day,),
            (DOWN1, DOWN0, UP1, UP0), (DOWN0, DOWN1, UP0, UP1),
            (list(DOWN1), DOWN0, UP0, UP1), (DOWN1, DOWN0, UP0, ("up", 0, True)),
            (DOWN1, DOWN0, UP0, ("up", False, 1)), (DOWN1, ("down", 0, False), UP0, UP1),
            (DOWN1, DOWN0, UP0, "up"), (DOWN1, DOWN0, UP0, None), "d0@1", {}, None, 4,
        ):
            self.assertIs(canals.is_day(canal, thing), False, thing)

    def test_a_day_is_asked_for_where_a_row_that_is_none_comes(self):
        for thing in ((UP1,), (("up", 9, 9),), (UP0,), ()):
            with self.assertRaises(NoDay):
                table_of((2, 1, 1), thing)

    def test_the_greatest_canals(self):
        for canal in (plain.GREATEST, (5, 4, 3), (5, 0, 4), (5, 4, 0), (4, 4, 4), (1, 4, 4)):
            count = plain.completions(canal)
            self.assertEqual(canals.many_days(canal), count(plain.start(canal)))
            self.assertEqual(canals.least_day(canal), plain.least_with(canal))
            for day in plain.some_days(canal, 20, 2):
                self.assertIs(canals.is_day(canal, day), True)
                self.assertIs(canals.is_day(canal, day[::-1]), False)
        self.assertEqual(canals.many_days(plain.GREATEST), 381134230556959188429120)

    def test_every_canal_has_as_many_days_as_can_be_counted(self):
        for canal in product(range(1, 6), range(5), range(5)):
            counted = plain.completions(canal)(plain.start(canal))
            self.assertEqual(canals.many_days(canal), counted, canal)


if __name__ == "__main__":
    unittest.main()
