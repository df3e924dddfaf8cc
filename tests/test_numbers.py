"""The point [40]: how many tables there are, and the number of each."""

import unittest
from itertools import product

from poundmeets import numbers, tables
from poundmeets.errors import NoCanal, NoNumber, NoTable
from tests import plain

ALL_CANALS = tuple(product(range(1, 6), range(5), range(5)))


def boxes(canal):
    """How many tables there are, by MacMahon's formula for boxes in a corner."""
    locks, ups, downs = canal
    over = under = 1
    for up, down in product(range(ups), range(downs)):
        over *= up + down + 1 + locks
        under *= up + down + 1
    return over // under


class ManyTables(unittest.TestCase):
    def test_small_canals_gone_through(self):
        for canal in plain.SMALL:
            if (canal[0] + 1) ** (canal[1] * canal[2]) < 10 ** 5:
                self.assertEqual(numbers.many_tables(canal), len(plain.all_tables(canal)))

    def test_all_canals(self):
        for canal in ALL_CANALS:
            self.assertEqual(numbers.many_tables(canal), boxes(canal), canal)

    def test_the_most_that_there_are(self):
        told = [numbers.many_tables(canal) for canal in ALL_CANALS]
        self.assertEqual(max(told), 1646568)
        self.assertEqual(numbers.many_tables((5, 4, 4)), 1646568)

    def test_without_boats_of_a_way(self):
        for locks, boats in product(range(1, 6), range(5)):
            self.assertEqual(numbers.many_tables((locks, 0, boats)), 1)
            self.assertEqual(numbers.many_tables((locks, boats, 0)), 1)

    def test_no_canal(self):
        for thing in ((0, 1, 1), (6, 1, 1), (1, 5, 1), (True, 1, 1), [1, 1, 1], None, 3, {}):
            with self.assertRaises(NoCanal):
                numbers.many_tables(thing)


class Numbers(unittest.TestCase):
    def test_all_tables_of_small_canals(self):
        for canal in plain.SMALL + ((2, 3, 3), (3, 2, 2), (5, 1, 4), (5, 4, 1), (1, 4, 4)):
            rising = sorted(plain.rising_tables(canal))
            self.assertEqual(numbers.many_tables(canal), len(rising))
            for number, table in enumerate(rising):
                self.assertEqual(numbers.number_of(canal, table), number)
                self.assertEqual(numbers.table_at(canal, number), table)
            for number in (-1, len(rising)):
                with self.assertRaises(NoNumber):
                    numbers.table_at(canal, number)

    def test_the_plain_tables_are_the_ones_of_the_document(self):
        for canal in ((1, 2, 3), (2, 2, 2), (2, 3, 3), (3, 2, 2), (4, 0, 2), (4, 2, 0)):
            self.assertEqual(list(plain.rising_tables(canal)), sorted(plain.all_tables(canal)))

    def test_the_greatest_canal(self):
        canal = plain.GREATEST
        for number, table in enumerate(plain.rising_tables(canal)):
            if number % 6007 == 0:
                self.assertEqual(numbers.number_of(canal, table), number)
                self.assertEqual(numbers.table_at(canal, number), table)

    def test_the_first_and_the_last(self):
        for canal in ALL_CANALS:
            locks, ups, downs = canal
            many = boxes(canal)
            least, greatest = ((0,) * downs,) * ups, ((locks,) * downs,) * ups
            self.assertEqual(numbers.table_at(canal, 0), least)
            self.assertEqual(numbers.table_at(canal, many - 1), greatest)
            self.assertEqual(numbers.number_of(canal, least), 0)
            self.assertEqual(numbers.number_of(canal, greatest), many - 1)
            with self.assertRaises(NoNumber):
                numbers.table_at(canal, many)

    def test_what_is_told_is_a_table(self):
        for canal, number in (((5, 4, 4), 823283), ((5, 3, 4), 77777), ((4, 4, 4), 0)):
            table = numbers.table_at(canal, number)
            self.assertIs(tables.is_table(canal, table), True)
            self.assertEqual(numbers.number_of(canal, table), number)

    def test_things_that_are_no_numbers(self):
        for canal in ((2, 2, 1), (1, 0, 0), (3, 2, 0), (3, 0, 2), (5, 4, 4)):
            for thing in (
                -1, numbers.many_tables(canal), 10 ** 12 - 1, 1 - 10 ** 12, True, False, None,
                "0", "", (), (0,), [0], {}, {0: 0},
            ):
                with self.assertRaises(NoNumber):
                    numbers.table_at(canal, thing)

    def test_things_that_are_no_tables(self):
        for thing in (((1,), (2,)), ((True,), (0,)), ((3,), (0,)), [(1,), (0,)], (), 0, None):
            with self.assertRaises(NoTable):
                numbers.number_of((2, 2, 1), thing)


if __name__ == "__main__":
    unittest.main()
