"""The points [20] and [21], and of [3] what tables show."""

import unittest
from itertools import permutations, product

from poundmeets import canals, tables
from poundmeets.errors import NoBooks, NoLock
from tests import plain


def ahead_at(day, lock):
    """The ways of the boats that pass a lock, in order."""
    return tuple(way for way, _, at in day if at == lock)


class IsTable(unittest.TestCase):
    def test_just_those_that_the_document_describes(self):
        for canal in ((1, 1, 1), (2, 2, 1), (2, 1, 2), (2, 2, 2), (1, 2, 3), (3, 2, 1)):
            found = set(plain.all_tables(canal))
            locks, ups, downs = canal
            for flat in product(range(-1, locks + 2), repeat=ups * downs):
                table = tuple(flat[up * downs:(up + 1) * downs] for up in range(ups))
                self.assertIs(tables.is_table(canal, table), table in found, table)

    def test_no_boats_of_one_way(self):
        for downs in range(5):
            self.assertIs(tables.is_table((3, 0, downs), ()), True)
            self.assertIs(tables.is_table((3, 0, downs), ((),)), False)
        for ups in range(1, 5):
            self.assertIs(tables.is_table((3, ups, 0), ((),) * ups), True)
            self.assertIs(tables.is_table((3, ups, 0), ()), False)
            self.assertIs(tables.is_table((3, ups, 0), ((),) * (ups + 1)), False)
            self.assertIs(tables.is_table((3, ups, 0), ([],) * ups), False)
            self.assertIs(tables.is_table((3, ups, 0), [()] * ups), False)

    def test_things_that_are_no_tables(self):
        canal = (2, 2, 2)
        self.assertIs(tables.is_table(canal, ((1, 2), (0, 1))), True)
        for thing in (
            ((1, 2), (0, True)), ((True, 2), (0, 1)), ((1, 2), (False, 1)),
            [(1, 2), (0, 1)], ([1, 2], (0, 1)), ((1, 2), [0, 1]), ((1, 2),),
            ((1, 2), (0, 1), (0, 0)), ((1, 2, 2), (0, 1, 1)), ((1,), (0,)), ((1, 2), (0,)),
            ((1, 3), (0, 1)), ((1, 2), (-1, 1)), ((2, 1), (0, 1)), ((0, 1), (1, 2)),
            ((1, 2), (0, "1")), ((1, 2), (0, None)), ((1, 2), "01"), ((1, 2), None),
            ((1, 2), {0: 0, 1: 1}), {0: (1, 2)}, "12/01", None, 3, True, (),
            ((1, (2,)), (0, 1)),
        ):
            self.assertIs(tables.is_table(canal, thing), False, thing)

    def test_the_greatest_canal(self):
        canal = plain.GREATEST
        for day in plain.some_days(canal, 30, 3):
            table = plain.table_behind(canal, day)
            self.assertIs(tables.is_table(canal, table), True)
            self.assertIs(tables.is_table(canal, tuple(line[::-1] for line in table)),
                          table == tuple(line[::-1] for line in table))


class TableOf(unittest.TestCase):
    def test_all_days_of_small_canals(self):
        for canal in plain.SMALL:
            for table, days in plain.days_by_table(canal).items():
                for day in days:
                    self.assertEqual(tables.table_of(canal, day), table)

    def test_the_tables_of_days_are_just_those(self):
        for canal in plain.SMALL:
            found = {tables.table_of(canal, day) for day in plain.all_days(canal)}
            self.assertEqual(found, set(plain.all_tables(canal)), canal)

    def test_each_two_meet_in_just_one_pound(self):
        for canal in plain.SMALL:
            for day in plain.all_days(canal)[:200]:
                self.check_meetings(canal, day)
        for day in plain.some_days(plain.GREATEST, 20, 4):
            self.check_meetings(plain.GREATEST, day)

    def check_meetings(self, canal, day):
        table = tables.table_of(canal, day)
        shared = {}
        for at in range(len(day) + 1):
            ups, downs = canals.pounds(canal, day[:at])
            for up, down in product(range(canal[1]), range(canal[2])):
                if ups[up] == downs[down]:
                    shared.setdefault((up, down), set()).add(ups[up])
        for up, down in product(range(canal[1]), range(canal[2])):
            self.assertEqual(shared[up, down], {table[up][down]})

    def test_the_greatest_canal(self):
        canal = plain.GREATEST
        for day in plain.some_days(canal, 60, 5):
            self.assertEqual(tables.table_of(canal, day), plain.table_behind(canal, day))
        self.assertEqual(tables.table_of(canal, canals.least_day(canal)), ((0,) * 4,) * 4)

    def test_without_boats_of_one_way(self):
        for canal, table in (
            ((2, 0, 0), ()), ((2, 0, 1), ()), ((2, 1, 0), ((),)), ((1, 4, 0), ((),) * 4),
        ):
            self.assertEqual(tables.table_of(canal, canals.least_day(canal)), table)


class Books(unittest.TestCase):
    def test_books_of_all_days_of_small_canals(self):
        for canal in plain.SMALL:
            for table, days in plain.days_by_table(canal).items():
                told = [tables.book(canal, table, lock) for lock in range(canal[0])]
                for day in days[:150]:
                    seen = [ahead_at(day, lock) for lock in range(canal[0])]
                    self.assertEqual(told, seen)

    def test_books_of_days_of_the_greatest_canal(self):
        canal = plain.GREATEST
        for day in plain.some_days(canal, 60, 6):
            table = tables.table_of(canal, day)
            for lock in range(canal[0]):
                self.assertEqual(tables.book(canal, table, lock), ahead_at(day, lock))

    def test_no_lock(self):
        for lock in (-1, 2, True, False, None, "0", (0,), [0], {}, 10 ** 12 - 1):
            with self.assertRaises(NoLock):
                tables.book((2, 1, 1), ((1,),), lock)
        self.assertEqual(tables.book((2, 1, 1), ((1,),), 0), ("up", "down"))
        self.assertEqual(tables.book((2, 1, 1), ((1,),), 1), ("down", "up"))

    def test_without_boats(self):
        self.assertEqual(tables.book((1, 0, 0), (), 0), ())
        self.assertEqual(tables.book((5, 3, 0), ((), (), ()), 4), ("up",) * 3)
        self.assertEqual(tables.book((5, 0, 4), (), 4), ("down",) * 4)
        self.assertEqual(tables.of_books((1, 0, 0), ((),)), ())
        self.assertEqual(tables.of_books((2, 3, 0), (("up",) * 3,) * 2), ((), (), ()))
        self.assertEqual(tables.of_books((2, 0, 4), (("down",) * 4,) * 2), ())

    def test_all_books_of_small_canals(self):
        for canal in ((1, 2, 3), (2, 1, 1), (2, 2, 1), (2, 2, 2), (3, 1, 2), (2, 3, 2), (3, 1, 1)):
            locks, ups, downs = canal
            of_tables = {}
            for table, days in plain.days_by_table(canal).items():
                of_tables[tuple(ahead_at(days[0], lock) for lock in range(locks))] = table
            kinds = sorted(set(permutations(("up",) * ups + ("down",) * downs)))
            for books in product(kinds, repeat=locks):
                self.assertEqual(tables.of_books(canal, books), of_tables.get(books))

    def test_books_of_the_greatest_canal(self):
        canal = plain.GREATEST
        for day in plain.some_days(canal, 60, 7):
            books = tuple(ahead_at(day, lock) for lock in range(canal[0]))
            self.assertEqual(tables.of_books(canal, books), plain.table_behind(canal, day))
            if len(set(books)) > 1:
                self.assertIsNone(tables.of_books(canal, books[::-1]))

    def test_the_down_one_ahead_at_a_lock_below_alone(self):
        first, then = ("up", "down"), ("down", "up")
        self.assertEqual(tables.of_books((2, 1, 1), (first, first)), ((2,),))
        self.assertEqual(tables.of_books((2, 1, 1), (first, then)), ((1,),))
        self.assertEqual(tables.of_books((2, 1, 1), (then, then)), ((0,),))
        self.assertIsNone(tables.of_books((2, 1, 1), (then, first)))

    def test_things_that_are_no_books(self):
        good = ("up", "down")
        for thing in (
            (), (good,), (good,) * 3, [good, good], (good, list(good)), (good, ("up",)),
            (good, ("up", "up")), (good, ("down", "down")), (good, ("up", "down", "up")),
            (good, ("up", "down", "sideways")), (good, ("up", 0)), (good, "up"), (good, None),
            (good, {"up": "down"}), (good, ("up", ("down",))), None, 2, True, "updown", {},
            (good, ("Up", "down")), (good, ()),
        ):
            with self.assertRaises(NoBooks):
                tables.of_books((2, 1, 1), thing)


if __name__ == "__main__":
    unittest.main()
