"""The points [60] and [61], and of [3] that turns hang on the table alone."""

import unittest
from collections import deque
from itertools import product
from random import Random

from poundmeets import canals, days, gates, numbers, tables
from poundmeets.errors import NoCanal, NoGates, NoTable
from tests import plain

SOME = ((1, 1, 1), (1, 2, 3), (2, 2, 1), (2, 1, 2), (2, 2, 2), (3, 2, 1), (3, 1, 2), (2, 3, 2))
EMPTY = (((1, 0, 0), ()), ((3, 0, 2), ()), ((2, 3, 0), ((), (), ())), ((5, 0, 0), ()))


def all_gates(canal):
    """All gates of a canal."""
    return list(product(("high", "low"), repeat=canal[0]))


def some_gates(canal, many, seed):
    """Some gates of a canal, the same ones each time."""
    chance = Random(seed)
    return [tuple(chance.choices(("high", "low"), k=canal[0])) for _ in range(many)]


def fewest_gone_through(canal, stand):
    """The fewest turns of any day, by looking for it passing by passing."""
    begin = (plain.start(canal), stand)
    told = {begin: 0}
    rim = deque([begin])
    done = set()
    while rim:
        here = rim.popleft()
        if here in done:
            continue
        done.add(here)
        state, gated = here
        found = plain.choices(canal, state)
        if not found:
            return told[here]
        for (way, _, lock), after in found:
            turned, (stands,) = plain.lock_through(((way, 0, 0),), gated[lock:lock + 1])
            there = (after, gated[:lock] + (stands,) + gated[lock + 1:])
            if told[here] + turned[0] < told.get(there, 10 ** 6):
                told[there] = told[here] + turned[0]
                (rim.append if turned[0] else rim.appendleft)(there)
    return None


def upward_bounds(canal, stand):
    """The bounds again, by going through all tables."""
    least = [{} for _ in stand]
    for table in plain.rising_tables(canal):
        turned = 0
        for lock in reversed(range(canal[0])):
            ways = plain.book_at(canal, table, lock)
            turned += plain.lock_through([(way, 0, 0) for way in ways], stand[lock:][:1])[0][0]
            least[lock][ways] = min(turned, least[lock].get(ways, turned))
    return tuple(tuple(sorted(books.items())) for books in least)


class TurnsAndEvening(unittest.TestCase):
    def check(self, canal, table, day, stand):
        turned, late = plain.lock_through(day, stand)
        self.assertEqual(gates.turns(canal, table, stand), turned)
        self.assertEqual(gates.evening(canal, table, stand), late)

    def test_all_days_of_small_canals(self):
        for canal in SOME:
            for table, found in plain.days_by_table(canal).items():
                for stand in all_gates(canal):
                    told = {plain.lock_through(day, stand) for day in found}
                    self.assertEqual(len(told), 1)
                    self.check(canal, table, found[0], stand)

    def test_days_of_other_canals(self):
        for canal in plain.SMALL + ((4, 4, 1), (5, 2, 4)):
            for day in plain.some_days(canal, 6, 41):
                for stand in some_gates(canal, 4, 42):
                    self.check(canal, plain.table_behind(canal, day), day, stand)

    def test_days_of_the_greatest_canal(self):
        canal = plain.GREATEST
        for day in plain.some_days(canal, 40, 43):
            for stand in some_gates(canal, 4, 44):
                self.check(canal, plain.table_behind(canal, day), day, stand)

    def test_boats_of_one_way_alone(self):
        self.assertEqual(gates.turns((2, 3, 0), ((), (), ()), ("low", "high")), (2, 3))
        self.assertEqual(gates.evening((2, 3, 0), ((), (), ()), ("low", "low")), ("high", "high"))
        self.assertEqual(gates.turns((2, 0, 3), (), ("low", "high")), (3, 2))
        self.assertEqual(gates.evening((2, 0, 3), (), ("high", "high")), ("low", "low"))

    def test_without_boats_all_stand_as_in_the_morning(self):
        for locks in range(1, 6):
            canal = (locks, 0, 0)
            for stand in all_gates(canal):
                self.assertEqual(gates.turns(canal, (), stand), (0,) * locks)
                self.assertEqual(gates.evening(canal, (), stand), stand)

    def test_the_evening_is_a_morning_again(self):
        canal, table = (2, 1, 1), ((1,),)
        late = gates.evening(canal, table, ("low", "low"))
        self.assertEqual(late, ("low", "high"))
        self.assertEqual(gates.turns(canal, table, late), (0, 0))
        self.assertEqual(gates.turns(canal, table, ("high", "low")), (1, 1))


class Fewest(unittest.TestCase):
    def check(self, canal, stand):
        many, table = gates.fewest(canal, stand)
        self.assertIs(tables.is_table(canal, table), True)
        self.assertEqual(sum(plain.lock_through(days.day_of(canal, table), stand)[0]), many)
        self.assertIs(gates.is_fewest(canal, stand, table), True)
        return many

    def test_all_tables_of_small_canals(self):
        for canal in SOME + ((4, 1, 1), (3, 2, 2), (1, 4, 2)):
            for stand in all_gates(canal):
                turned = {
                    table: sum(plain.lock_through(days.day_of(canal, table), stand)[0])
                    for table in plain.rising_tables(canal)
                }
                many = self.check(canal, stand)
                self.assertEqual(many, min(turned.values()))
                for table, told in turned.items():
                    self.assertIs(gates.is_fewest(canal, stand, table), told == many)

    def test_days_gone_through_passing_by_passing(self):
        for canal in ((1, 4, 3), (2, 3, 3), (3, 3, 2), (4, 2, 2), (5, 1, 3), (5, 3, 0)):
            for stand in some_gates(canal, 4, 45):
                self.assertEqual(self.check(canal, stand), fewest_gone_through(canal, stand))

    def test_the_greatest_canal(self):
        canal = plain.GREATEST
        # Counted by going through all 1,646,568 tables.
        for stand, many in (
            (("low",) * 5, 0), (("high",) * 5, 0),
            (("high", "low", "high", "low", "low"), 2), (("low", "high", "high", "low", "high"), 1),
        ):
            self.assertEqual(self.check(canal, stand), many)
            for table in plain.some_tables(canal, 20, 46):
                told = sum(gates.turns(canal, table, stand))
                self.assertGreaterEqual(told, many)
                self.assertIs(gates.is_fewest(canal, stand, table), told == many)

    def test_without_boats_of_a_way(self):
        for canal, table in EMPTY:
            for stand in all_gates(canal):
                told = sum(plain.lock_through(canals.least_day(canal), stand)[0])
                self.assertEqual(gates.fewest(canal, stand), (told, table))
                self.assertIs(gates.is_fewest(canal, stand, table), True)

    def test_things_that_are_no_such_tables(self):
        canal, stand = (2, 1, 1), ("low", "low")
        self.assertEqual(gates.fewest(canal, stand)[0], 0)
        self.assertIs(gates.is_fewest(canal, stand, ((2,),)), True)
        for thing in (
            ((0,),), ((1,),), ((3,),), ((True,),), [(2,)], ([2],), (2,), 2, None, True, {}, "2", (),
            ((2,), (2,)), ((2, 2),), ((),), {0: (2,)},
        ):
            self.assertIs(gates.is_fewest(canal, stand, thing), False, thing)
        self.assertIs(gates.is_fewest(canal, ("low", "high"), ((True,),)), False)
        self.assertIs(gates.is_fewest(canal, ("low", "high"), ((1,),)), True)


class Bounds(unittest.TestCase):
    def test_all_tables_of_small_canals(self):
        for canal in SOME + ((4, 1, 1), (3, 2, 2), (1, 4, 2), (2, 0, 2), (3, 2, 0), (1, 0, 0)):
            for stand in all_gates(canal):
                self.assertEqual(gates.bounds(canal, stand), upward_bounds(canal, stand))

    def test_larger_canals(self):
        for canal in ((3, 3, 3), (5, 2, 2), (4, 3, 2)):
            for stand in some_gates(canal, 2, 47):
                self.assertEqual(gates.bounds(canal, stand), upward_bounds(canal, stand))

    def test_the_greatest_canal(self):
        canal = plain.GREATEST
        # Summed up from going through all 1,646,568 tables.
        for stand, sums in (
            (("low",) * 5, [765, 635, 505, 375, 245]),
            (("high",) * 5, [541, 467, 393, 319, 245]),
            (("high", "low", "high", "low", "low"), [723, 593, 505, 375, 245]),
            (("low", "high", "high", "low", "high"), [611, 537, 449, 319, 245]),
        ):
            told = gates.bounds(canal, stand)
            self.assertEqual([sum(many for _, many in books) for books in told], sums)
            self.assertEqual(min(many for _, many in told[0]), gates.fewest(canal, stand)[0])
            for books in told:
                self.assertEqual(len(books), 70)
                self.assertEqual(sorted(books), list(books))

    def test_no_table_has_fewer(self):
        canal = plain.GREATEST
        for stand in some_gates(canal, 5, 48):
            told = [dict(books) for books in gates.bounds(canal, stand)]
            for number in range(0, 1646568, 150001):
                table = numbers.table_at(canal, number)
                turned = gates.turns(canal, table, stand)
                for lock in range(5):
                    ways = tables.book(canal, table, lock)
                    self.assertLessEqual(told[lock][ways], sum(turned[lock:]))

    def test_as_it_is_told(self):
        down_first, up_first = ("down", "up"), ("up", "down")
        # With the down boat ahead at the lower lock it is ahead at the upper one, too.
        self.assertEqual(gates.bounds((2, 1, 1), ("high", "low")), (
            ((down_first, 1), (up_first, 1)), ((down_first, 1), (up_first, 0)),
        ))
        self.assertEqual(gates.bounds((2, 1, 1), ("low", "low")), (
            ((down_first, 2), (up_first, 0)), ((down_first, 1), (up_first, 0)),
        ))
        self.assertEqual(gates.bounds((2, 0, 0), ("high", "low")), ((((), 0),), (((), 0),)))
        self.assertEqual(gates.bounds((1, 2, 0), ("high",)), (((("up", "up"), 2),),))


class Refusals(unittest.TestCase):
    canal = (2, 2, 1)
    table = ((1,), (0,))
    good = ("low", "high")

    def asked(self, canal, table, stand):
        return (
            lambda: gates.turns(canal, table, stand), lambda: gates.evening(canal, table, stand),
        ), (
            lambda: gates.fewest(canal, stand), lambda: gates.bounds(canal, stand),
            lambda: gates.is_fewest(canal, stand, table),
        )

    def test_things_that_are_no_gates(self):
        for thing in (
            None, True, 0, "", "low", (), ("low",), self.good + ("low",), list(self.good),
            ("low", "High"), ("low", "up"), ("low", 0), ("low", True), ("low", None),
            ("low", ("high",)), ("low", ["high"]), {"low": "high"}, (self.good, self.good),
        ):
            with_table, without = self.asked(self.canal, self.table, thing)
            for ask in with_table + without:
                with self.assertRaises(NoGates):
                    ask()

    def test_the_first_that_is_due(self):
        for thing in (None, ((0,), (1,)), ((True,), (0,)), [(1,), (0,)]):
            with_table, without = self.asked(self.canal, thing, ("low",))
            for ask in with_table:
                self.assertRaises(NoTable, ask)
            for ask in without:
                self.assertRaises(NoGates, ask)
            for ask in sum(self.asked((0, 2, 1), thing, ("low",)), ()):
                self.assertRaises(NoCanal, ask)


if __name__ == "__main__":
    unittest.main()
