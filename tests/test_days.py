"""The points [30], [31] and [32], and of [3] that each table has the told day."""

import unittest
from itertools import product

from poundmeets import canals, days, tables
from tests import plain


class DaysOf(unittest.TestCase):
    def test_all_tables_of_small_canals(self):
        for canal in plain.SMALL:
            found = plain.days_by_table(canal)
            for table in plain.all_tables(canal):
                self.assertEqual(days.days_of(canal, table), len(found[table]))
                self.assertEqual(days.day_of(canal, table), min(found[table]))

    def test_all_days_of_a_canal_are_those_of_its_tables(self):
        for canal in ((3, 2, 2), (2, 3, 3), (4, 2, 2), (1, 4, 4), (5, 2, 1), (3, 3, 2)):
            told = [days.days_of(canal, table) for table in plain.all_tables(canal)]
            self.assertEqual(sum(told), canals.many_days(canal), canal)

    def test_each_table_has_the_told_day(self):
        for canal in ((3, 2, 2), (2, 3, 3), (4, 2, 2), (5, 1, 3), (3, 3, 2), (5, 2, 2)):
            for table in plain.all_tables(canal):
                day = days.day_of(canal, table)
                self.assertIs(canals.is_day(canal, day), True)
                self.assertEqual(tables.table_of(canal, day), table)

    def test_tables_of_the_greatest_canal(self):
        canal = plain.GREATEST
        edges = [((0,) * 4,) * 4, ((5,) * 4,) * 4, ((0, 2, 3, 5),) * 4]
        for table in edges + plain.some_tables(canal, 12, 8):
            count = plain.completions(canal, table)
            self.assertEqual(days.days_of(canal, table), count(plain.start(canal)))
            self.assertEqual(days.day_of(canal, table), plain.least_with(canal, table))

    def test_without_boats(self):
        for canal, table in (((1, 0, 0), ()), ((5, 0, 0), ())):
            self.assertEqual(days.days_of(canal, table), 1)
            self.assertEqual(days.day_of(canal, table), ())
            self.assertIs(days.is_day_of(canal, table, ()), True)
        for canal, table in (((5, 4, 0), ((),) * 4), ((5, 0, 4), ())):
            self.assertEqual(days.days_of(canal, table), canals.many_days(canal))
            self.assertEqual(days.day_of(canal, table), canals.least_day(canal))


class IsDayOf(unittest.TestCase):
    def test_all_days_of_small_canals(self):
        for canal in ((1, 2, 3), (2, 1, 1), (2, 2, 1), (3, 1, 1), (2, 2, 2), (2, 0, 3)):
            found = plain.days_by_table(canal)
            for table in plain.all_tables(canal):
                for day in plain.all_days(canal):
                    self.assertIs(days.is_day_of(canal, table, day), day in found[table])

    def test_things_that_are_no_such_days(self):
        canal, table = (2, 1, 1), ((1,),)
        day = days.day_of(canal, table)
        self.assertIs(days.is_day_of(canal, table, day), True)
        for thing in (
            list(day), day[:-1], day + day[:1], day[::-1], (), None, 4, True, "", {}, (None,),
            tuple(list(passing) for passing in day), day[:-1] + (("up", False, 1),),
            day[:-1] + (("up", 0, True),), canals.least_day(canal),
        ):
            self.assertIs(days.is_day_of(canal, table, thing), False, thing)

    def test_the_greatest_canal(self):
        canal = plain.GREATEST
        found = plain.some_days(canal, 8, 9)
        for one, other in product(found, found):
            alike = plain.table_behind(canal, one) == plain.table_behind(canal, other)
            told = days.is_day_of(canal, plain.table_behind(canal, one), other)
            self.assertIs(told, alike)


class Exchanges(unittest.TestCase):
    def check(self, canal, day):
        same, other = [], []
        for at in range(len(day) - 1):
            turned = day[:at] + (day[at + 1], day[at]) + day[at + 2:]
            if plain.state_behind(canal, turned) is not None:
                stays = plain.table_behind(canal, turned) == plain.table_behind(canal, day)
                (same if stays else other).append(at)
        self.assertEqual(days.exchanges(canal, day), (tuple(same), tuple(other)))

    def test_days_of_small_canals(self):
        for canal in plain.SMALL:
            for day in plain.all_days(canal)[::7]:
                self.check(canal, day)

    def test_days_of_the_greatest_canal(self):
        for day in plain.some_days(plain.GREATEST, 15, 10):
            self.check(plain.GREATEST, day)

    def test_the_one_meeting_goes_one_pound(self):
        canal = (3, 2, 2)
        for day in plain.some_days(canal, 40, 11):
            table = tables.table_of(canal, day)
            for at in days.exchanges(canal, day)[1]:
                turned = day[:at] + (day[at + 1], day[at]) + day[at + 2:]
                two = {way: boat for way, boat, _ in day[at:at + 2]}
                step = -1 if day[at][0] == "up" else 1
                lines = [list(line) for line in table]
                lines[two["up"]][two["down"]] += step
                self.assertEqual(
                    tables.table_of(canal, turned), tuple(tuple(line) for line in lines)
                )

    def test_days_of_none_and_one(self):
        self.assertEqual(days.exchanges((1, 0, 0), ()), ((), ()))
        self.assertEqual(days.exchanges((1, 1, 0), (("up", 0, 0),)), ((), ()))
        day = (("up", 0, 0), ("down", 0, 0))
        self.assertEqual(days.exchanges((1, 1, 1), day), ((), (0,)))


class Turned(unittest.TestCase):
    def check(self, canal, day):
        locks, ups, downs = canal
        turned = (locks, downs, ups)
        back, head = days.backward(canal, day), days.upside_down(canal, day)
        self.assertEqual(back, tuple(
            ("down", ups - 1 - boat, lock) if way == "up" else ("up", downs - 1 - boat, lock)
            for way, boat, lock in day[::-1]
        ))
        self.assertEqual(head, tuple(
            ({"up": "down", "down": "up"}[way], boat, locks - 1 - lock)
            for way, boat, lock in day
        ))
        table = plain.table_behind(canal, day)
        for told, told_table in (
            (back, days.backward_table(canal, table)),
            (head, days.upside_down_table(canal, table)),
        ):
            self.assertIs(canals.is_day(turned, told), True)
            self.assertIs(tables.is_table(turned, told_table), True)
            self.assertEqual(plain.table_behind(turned, told), told_table)
        self.assertEqual(days.backward(turned, back), day)
        self.assertEqual(days.upside_down(turned, head), day)

    def test_days_of_small_canals(self):
        for canal in plain.SMALL:
            for day in plain.all_days(canal)[::11]:
                self.check(canal, day)

    def test_days_of_the_greatest_canal(self):
        for canal in (plain.GREATEST, (5, 4, 3), (5, 3, 4), (4, 1, 4)):
            for day in plain.some_days(canal, 15, 12):
                self.check(canal, day)

    def test_where_they_meet_then(self):
        canal, table = (3, 2, 3), ((1, 2, 3), (0, 0, 2))
        self.assertEqual(days.backward_table(canal, table), ((2, 3), (0, 2), (0, 1)))
        self.assertEqual(days.upside_down_table(canal, table), ((2, 3), (1, 3), (0, 1)))

    def test_without_boats_of_one_way(self):
        for told in (days.backward_table, days.upside_down_table):
            self.assertEqual(told((2, 0, 0), ()), ())
            self.assertEqual(told((2, 0, 3), ()), ((), (), ()))
            self.assertEqual(told((2, 3, 0), ((), (), ())), ())
        for told in (days.backward, days.upside_down):
            self.assertEqual(told((2, 0, 0), ()), ())


if __name__ == "__main__":
    unittest.main()
