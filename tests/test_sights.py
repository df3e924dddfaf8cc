"""The points [50] and [51]: what was seen, and the book that tells most."""

import unittest
from collections import Counter
from itertools import product
from random import Random

from poundmeets import numbers, sights, steps, tables
from poundmeets.errors import NoBook, NoCanal, NoLock, NoneAgree, NoSights, PoundError
from tests import plain

SOME = ((1, 1, 1), (1, 2, 3), (2, 2, 1), (2, 1, 2), (2, 2, 2), (3, 2, 2), (3, 1, 3), (2, 3, 2))
EMPTY = (((1, 0, 0), ()), ((3, 0, 2), ()), ((2, 3, 0), ((), (), ())))
SEEN = ((1, 1, 2, 3), (2, 3, 1, 4))
CROSSED = ((0, 0, 1, 5), (3, 3, 0, 4), (1, 2, 2, 4), (0, 0, 0, 3))


def agreeing(canal, seen):
    """All tables that agree."""
    return [table for table in plain.rising_tables(canal) if plain.agrees(table, seen)]


def seen_on(canal, seed, times):
    """Sights on a canal by chance, from none to many."""
    chance = Random(seed)
    return [plain.some_sights(canal, chance, at % 6) for at in range(times)]


class ManyAgree(unittest.TestCase):
    def test_small_canals(self):
        for canal in SOME:
            for seen in seen_on(canal, 31, 60):
                self.assertEqual(sights.many_agree(canal, seen), len(agreeing(canal, seen)))

    def test_no_sights_at_all(self):
        for canal in product(range(1, 6), range(5), range(5)):
            self.assertEqual(sights.many_agree(canal, ()), numbers.many_tables(canal))

    def test_each_sight_alone(self):
        canal = (3, 2, 2)
        for up, down, low in product(range(2), range(2), range(4)):
            for high in range(low, 4):
                seen = ((up, down, low, high),)
                self.assertEqual(sights.many_agree(canal, seen), len(agreeing(canal, seen)))

    def test_none_agrees(self):
        for canal, seen in (
            ((2, 1, 1), ((0, 0, 0, 0), (0, 0, 1, 2))),
            ((2, 2, 1), ((0, 0, 0, 0), (1, 0, 1, 1))),
            ((2, 1, 2), ((0, 0, 2, 2), (0, 1, 0, 1))),
            ((5, 4, 4), ((0, 3, 0, 2), (3, 0, 3, 5))),
        ):
            self.assertEqual(sights.many_agree(canal, seen), 0)
            self.assertIsNone(sights.span(canal, seen))

    def test_the_greatest_canal(self):
        canal = plain.GREATEST
        # Counted by going through all 1,646,568 tables.
        self.assertEqual(sights.many_agree(canal, SEEN), 723918)
        self.assertEqual(sights.many_agree(canal, CROSSED), 857843)
        seen = ((0, 3, 2, 3), (1, 0, 2, 2), (2, 2, 1, 2), (3, 0, 0, 0))
        fits = [
            {sight[1]: sight[2:] for sight in seen if sight[0] == up} for up in range(4)
        ]
        found = list(plain.rising_tables(canal, lambda up, line: all(
            low <= line[down] <= high for down, (low, high) in fits[up].items()
        )))
        self.assertEqual(sights.many_agree(canal, seen), len(found))
        self.assertEqual(sights.span(canal, seen), self.edges(found))

    def edges(self, found):
        """The least and the greatest pounds of tables, for each two boats."""
        return tuple(
            tuple(tuple(map(best, *lines)) for lines in zip(*found)) for best in (min, max)
        )

    def test_the_order_and_how_often_seen_change_nothing(self):
        canal = (4, 3, 3)
        for seen in seen_on(canal, 32, 40):
            told = sights.many_agree(canal, seen)
            self.assertEqual(sights.many_agree(canal, seen[::-1]), told)
            self.assertEqual(sights.many_agree(canal, seen * 3), told)


class Span(unittest.TestCase):
    def test_small_canals(self):
        for canal in SOME:
            for seen in seen_on(canal, 33, 60):
                found = agreeing(canal, seen)
                told = sights.span(canal, seen)
                if not found:
                    self.assertIsNone(told)
                    continue
                least, greatest = told
                self.assertIn(least, found)
                self.assertIn(greatest, found)
                for table in found:
                    self.assertEqual(steps.lesser(canal, table, least), least)
                    self.assertEqual(steps.greater(canal, table, greatest), greatest)

    def test_each_pound_between_is_one_in_which_they_may_have_met(self):
        for canal in SOME:
            for seen in seen_on(canal, 34, 30):
                found = agreeing(canal, seen)
                for up, down in product(range(canal[1]), range(canal[2])) if found else ():
                    least, greatest = sights.span(canal, seen)
                    self.assertEqual(
                        sorted({table[up][down] for table in found}),
                        list(range(least[up][down], greatest[up][down] + 1)),
                    )

    def test_no_sights_at_all(self):
        for locks, ups, downs in product(range(1, 6), range(5), range(5)):
            least, greatest = ((0,) * downs,) * ups, ((locks,) * downs,) * ups
            self.assertEqual(sights.span((locks, ups, downs), ()), (least, greatest))

    def test_what_one_sight_tells_of_the_others(self):
        canal = (5, 4, 4)
        self.assertEqual(sights.span(canal, ((1, 2, 2, 3),)), (
            ((0, 0, 2, 2), (0, 0, 2, 2), (0, 0, 0, 0), (0, 0, 0, 0)),
            ((5, 5, 5, 5), (3, 3, 3, 5), (3, 3, 3, 5), (3, 3, 3, 5)),
        ))


class SightsOf(unittest.TestCase):
    def test_all_books_of_small_canals(self):
        for canal in SOME + ((2, 0, 2), (1, 3, 0), (1, 0, 0)):
            books = {}
            for table, lock in product(plain.rising_tables(canal), range(canal[0])):
                books.setdefault((lock, plain.book_at(canal, table, lock)), []).append(table)
            for (lock, ways), found in books.items():
                told = sights.sights_of(canal, lock, ways)
                self.assertEqual(agreeing(canal, told), found)
                self.assertEqual(sorted(told), list(told))
                pairs = list(product(range(canal[1]), range(canal[2])))
                self.assertEqual([sight[:2] for sight in told], pairs)
                self.assertEqual(sights.many_agree(canal, told), len(found))

    def test_as_it_is_told(self):
        told = sights.sights_of((3, 2, 1), 1, ("up", "down", "up"))
        self.assertEqual(told, ((0, 0, 2, 3), (1, 0, 0, 1)))
        self.assertEqual(sights.sights_of((1, 1, 1), 0, ("up", "down")), ((0, 0, 1, 1),))
        self.assertEqual(sights.sights_of((1, 1, 1), 0, ("down", "up")), ((0, 0, 0, 0),))
        self.assertEqual(sights.sights_of((5, 0, 0), 4, ()), ())

    def test_books_of_the_greatest_canal(self):
        canal = plain.GREATEST
        for table in plain.some_tables(canal, 20, 35):
            for lock in range(5):
                told = sights.sights_of(canal, lock, tables.book(canal, table, lock))
                self.assertEqual(len(told), 16)
                self.assertTrue(plain.agrees(table, told))
                self.assertEqual({sight[2:] for sight in told} - {(0, lock), (lock + 1, 5)}, set())

    def test_refusals(self):
        good = ("up", "down", "up")
        for lock in (-1, 3, True, None, "0", (0,), []):
            for ways in (good, None, ("up",)):
                with self.assertRaises(NoLock):
                    sights.sights_of((3, 2, 1), lock, ways)
        for ways in (
            list(good), ("up", "down"), ("up", "up", "up"), good + ("up",), "up", None, (), 3,
            ("up", "down", "down"), ("up", "down", 0), ("up", "down", True), ("up", "down", "Up"),
            ("up", "down", ("up",)), {"up": 2, "down": 1}, (good,), ("up", "down", ["up"]),
        ):
            with self.assertRaises(NoBook):
                sights.sights_of((3, 2, 1), 2, ways)
        with self.assertRaises(NoCanal):
            sights.sights_of((0, 2, 1), 9, None)


class BestLock(unittest.TestCase):
    def told(self, canal, seen):
        """The same again, by counting the books of all tables that agree."""
        found = agreeing(canal, seen)
        most = [
            max(Counter(plain.book_at(canal, table, lock) for table in found).values())
            for lock in range(canal[0])
        ]
        return most.index(min(most)), min(most)

    def test_small_canals(self):
        for canal in SOME + ((5, 1, 1), (4, 2, 1), (4, 2, 2)):
            for seen in seen_on(canal, 36, 40):
                if sights.many_agree(canal, seen):
                    self.assertEqual(sights.best_lock(canal, seen), self.told(canal, seen))

    def test_larger_canals(self):
        for canal in ((3, 3, 3), (5, 3, 2), (4, 2, 3)):
            for seen in seen_on(canal, 37, 4):
                if sights.many_agree(canal, seen):
                    self.assertEqual(sights.best_lock(canal, seen), self.told(canal, seen))

    def test_the_least_of_several(self):
        self.assertEqual(sights.best_lock((2, 1, 1), ()), (0, 2))
        self.assertEqual(sights.best_lock((3, 1, 1), ()), (1, 2))
        self.assertEqual(sights.best_lock((3, 1, 1), ((0, 0, 1, 1),)), (0, 1))
        for canal, _ in EMPTY:
            self.assertEqual(sights.best_lock(canal, ()), (0, 1))

    def test_the_greatest_canal(self):
        canal = plain.GREATEST
        # Counted by going through all 1,646,568 tables.
        self.assertEqual(sights.best_lock(canal, ()), (2, 49896))
        self.assertEqual(sights.best_lock(canal, SEEN), (2, 25200))
        self.assertEqual(sights.best_lock(canal, CROSSED), (2, 38250))

    def test_none_agree(self):
        for seen in (((0, 0, 0, 0), (0, 0, 1, 2)), ((0, 0, 0, 0), (1, 0, 1, 1))):
            with self.assertRaises(NoneAgree):
                sights.best_lock((2, 2, 1), seen)
            with self.assertRaises(NoSights):
                sights.best_lock((2, 2, 1), seen + ((2, 0, 0, 0),))
            with self.assertRaises(NoCanal):
                sights.best_lock((2, 2, 5), seen)

    def test_a_hundred_sights(self):
        canal, seen = (3, 2, 2), ((0, 0, 1, 2),) * 100
        self.assertEqual(sights.best_lock(canal, seen), self.told(canal, seen[:1]))


class NoSuchSights(unittest.TestCase):
    asked = (sights.many_agree, sights.span, sights.best_lock)

    def test_things_that_are_no_sights(self):
        good = (1, 0, 0, 2)
        for thing in (
            None, True, 0, "", "1002", [], {}, [good], good, (good, list(good)), (good[:3],),
            (good + (0,),), (good, None), (good, ()), ((2, 0, 0, 2),), ((-1, 0, 0, 2),),
            ((1, 1, 0, 2),), ((1, -1, 0, 2),), ((1, 0, -1, 2),), ((1, 0, 0, 3),), ((1, 0, 2, 1),),
            ((1, 0, 3, 3),), ((True, 0, 0, 2),), ((1, False, 0, 2),), ((1, 0, False, 2),),
            ((1, 0, 0, True),), ((1, 0, "0", 2),), ((1, 0, 0, None),), ((None, 0, 0, 2),),
            ((1, (0,), 0, 2),), {good: 1}, ("1002",),
        ):
            for ask in self.asked:
                with self.assertRaises(PoundError) as caught:
                    ask((2, 2, 1), thing)
                self.assertIs(type(caught.exception), NoSights, thing)

    def test_without_boats_of_a_way_there_is_nothing_to_see(self):
        for canal, table in EMPTY:
            self.assertEqual(sights.many_agree(canal, ()), 1)
            self.assertEqual(sights.span(canal, ()), (table, table))
            for ask in self.asked:
                with self.assertRaises(NoSights):
                    ask(canal, ((0, 0, 0, 0),))

    def test_no_more_than_a_hundred(self):
        for many, refused in ((0, False), (99, False), (100, False), (101, True), (300, True)):
            for ask in self.asked:
                seen = ((0, 0, 0, 1),) * many
                if refused:
                    with self.assertRaises(NoSights):
                        ask((1, 1, 1), seen)
                else:
                    ask((1, 1, 1), seen)


if __name__ == "__main__":
    unittest.main()
