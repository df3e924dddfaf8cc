"""The point [41], and of [3] that exchanges and numbers are as far apart."""

import unittest
from itertools import product
from random import Random

from poundmeets import numbers, steps, tables
from poundmeets.errors import NoTable
from tests import plain

PAIRED = ((1, 1, 1), (1, 2, 3), (2, 2, 1), (2, 1, 2), (2, 2, 2), (3, 2, 1), (3, 1, 3), (2, 3, 2))
EMPTY = (((1, 0, 0), ()), ((3, 0, 2), ()), ((2, 3, 0), ((), (), ())))


def reach(near, start):
    """How many steps lead to each table that can be reached, gone through in width."""
    told = {start: 0}
    rim = [start]
    while rim:
        found = [(table, far) for table in rim for far in near[table] if far not in told]
        for table, far in found:
            told[far] = told[table] + 1
        rim = sorted({far for _, far in found})
    return told


def neighbours(canal):
    """For each table those one step off."""
    found = plain.all_tables(canal)
    return {
        one: sorted(other for other in found if plain.differ(one, other) == 1) for one in found
    }


def short_ways(near, one, other, left):
    """All ways from the one to the other of so many steps."""
    if left == 0:
        return [(one,)] if one == other else []
    return [
        (one,) + way for far in near[one] if plain.differ(far, other) == left - 1
        for way in short_ways(near, far, other, left - 1)
    ]


class OneOff(unittest.TestCase):
    def test_all_tables_of_small_canals(self):
        for canal in PAIRED + ((5, 1, 1), (1, 4, 2), (3, 2, 2)):
            for table, near in neighbours(canal).items():
                self.assertEqual(steps.one_off(canal, table), tuple(near))

    def test_the_least_and_the_greatest_table(self):
        for canal in ((5, 4, 4), (1, 3, 2), (4, 1, 1), (2, 2, 4)):
            locks, ups, downs = canal
            least, greatest = ((0,) * downs,) * ups, ((locks,) * downs,) * ups
            (above,), (below,) = steps.one_off(canal, least), steps.one_off(canal, greatest)
            self.assertEqual(above[0], (0,) * (downs - 1) + (1,))
            self.assertEqual(above[1:], least[1:])
            self.assertEqual(below[-1], (locks - 1,) + (locks,) * (downs - 1))
            self.assertEqual(below[:-1], greatest[:-1])

    def test_the_greatest_canal(self):
        canal = plain.GREATEST
        for table in plain.some_tables(canal, 30, 21):
            wanted = []
            for up, down, by in product(range(4), range(4), (-1, 1)):
                lines = [list(line) for line in table]
                lines[up][down] += by
                wanted.append(tuple(tuple(line) for line in lines))
            wanted = sorted(other for other in wanted if tables.is_table(canal, other))
            self.assertEqual(steps.one_off(canal, table), tuple(wanted))

    def test_without_boats_of_a_way(self):
        for canal, table in EMPTY:
            self.assertEqual(steps.one_off(canal, table), ())


class LesserAndGreater(unittest.TestCase):
    def check(self, canal, one, other):
        for told, best in (
            (steps.lesser(canal, one, other), min), (steps.greater(canal, one, other), max),
        ):
            self.assertIs(tables.is_table(canal, told), True)
            for up, down in product(range(canal[1]), range(canal[2])):
                self.assertEqual(told[up][down], best(one[up][down], other[up][down]))

    def test_all_pairs_of_small_canals(self):
        for canal in PAIRED:
            for one, other in product(plain.all_tables(canal), repeat=2):
                self.check(canal, one, other)

    def test_the_greatest_canal(self):
        found = plain.some_tables(plain.GREATEST, 12, 22)
        for one, other in product(found, found):
            self.check(plain.GREATEST, one, other)

    def test_unlike_ones(self):
        canal, one, other = (3, 2, 2), ((1, 3), (1, 1)), ((2, 2), (0, 2))
        self.assertEqual(steps.lesser(canal, one, other), ((1, 2), (0, 1)))
        self.assertEqual(steps.greater(canal, one, other), ((2, 3), (1, 2)))
        self.assertEqual(steps.how_far(canal, one, other), 4)

    def test_without_boats_of_a_way(self):
        for canal, table in EMPTY:
            self.assertEqual(steps.lesser(canal, table, table), table)
            self.assertEqual(steps.greater(canal, table, table), table)


class HowFar(unittest.TestCase):
    def test_all_pairs_of_small_canals(self):
        for canal in PAIRED:
            near = neighbours(canal)
            for one in near:
                far = reach(near, one)
                for other in near:
                    self.assertEqual(steps.how_far(canal, one, other), far[other])

    def test_as_far_as_days_are_by_exchanges(self):
        for canal in ((1, 2, 2), (2, 1, 1), (2, 2, 1), (3, 1, 1), (2, 1, 2), (2, 2, 2)):
            near = {table: set() for table in plain.all_tables(canal)}
            for day in plain.all_days(canal):
                table = plain.table_behind(canal, day)
                for at in range(len(day) - 1):
                    turned = day[:at] + (day[at + 1], day[at]) + day[at + 2:]
                    if plain.state_behind(canal, turned) is not None:
                        near[table].add(plain.table_behind(canal, turned))
            for one in near:
                far = reach(near, one)
                for other in near:
                    self.assertEqual(steps.how_far(canal, one, other), far[other])

    def test_the_furthest_and_the_nearest(self):
        canal = plain.GREATEST
        least, greatest = ((0,) * 4,) * 4, ((5,) * 4,) * 4
        self.assertEqual(steps.how_far(canal, least, greatest), 80)
        self.assertEqual(steps.how_far(canal, greatest, least), 80)
        self.assertEqual(steps.how_far(canal, least, least), 0)
        for canal, table in EMPTY:
            self.assertEqual(steps.how_far(canal, table, table), 0)


class Shortest(unittest.TestCase):
    def check(self, canal, one, other, told):
        self.assertIs(type(told), tuple)
        self.assertEqual(len(told), plain.differ(one, other) + 1)
        self.assertEqual((told[0], told[-1]), (one, other))
        for ahead, behind in zip(told, told[1:]):
            self.assertEqual(plain.differ(ahead, behind), 1)
            self.assertIs(tables.is_table(canal, behind), True)

    def test_the_least_of_all_on_small_canals(self):
        for canal in PAIRED + ((1, 3, 3),):
            near = neighbours(canal)
            chance = Random(23)
            pairs = list(product(near, repeat=2))
            for one, other in chance.sample(pairs, min(len(pairs), 150)):
                ways = short_ways(near, one, other, plain.differ(one, other))
                told = steps.shortest(canal, one, other)
                self.check(canal, one, other, told)
                self.assertEqual(told, min(ways))

    def test_the_greatest_canal(self):
        canal = plain.GREATEST
        found = plain.some_tables(canal, 4, 24) + [((0,) * 4,) * 4, ((5,) * 4,) * 4]
        for one, other in product(found, found):
            told = steps.shortest(canal, one, other)
            self.check(canal, one, other, told)
            for at, table in enumerate(told[1:]):
                left = plain.differ(table, other)
                nearer = [
                    far for far in steps.one_off(canal, told[at])
                    if plain.differ(far, other) == left
                ]
                self.assertEqual(table, min(nearer))
            self.assertIs(steps.leads(canal, one, other, told), True)

    def test_from_a_table_to_itself(self):
        for canal, table in EMPTY + (((2, 1, 1), ((1,),)), ((5, 4, 4), ((0,) * 4,) * 4)):
            self.assertEqual(steps.shortest(canal, table, table), (table,))

    def test_one_that_can_go_first_down_or_first_up(self):
        canal, one, other = (2, 1, 2), ((1, 1),), ((0, 2),)
        self.assertEqual(steps.shortest(canal, one, other), (((1, 1),), ((0, 1),), ((0, 2),)))


class Leads(unittest.TestCase):
    canal = (2, 2, 1)
    one = ((1,), (0,))
    other = ((2,), (1,))

    def leads(self, *told):
        return steps.leads(self.canal, self.one, self.other, told)

    def test_ways_of_whatever_length(self):
        by, off = ((1,), (1,)), ((2,), (0,))
        self.assertIs(self.leads(self.one, by, self.other), True)
        self.assertIs(self.leads(self.one, off, self.other), True)
        self.assertIs(self.leads(self.one, by, self.one, by, self.other), True)
        self.assertIs(self.leads(self.one, by, self.other, off, self.other), True)
        self.assertIs(self.leads(*(self.one, by) * 60, self.other), True)

    def test_things_that_do_not_lead(self):
        by = ((1,), (1,))
        self.assertIs(self.leads(), False)
        for told in (
            (self.one,), (self.other,), (self.one, self.other), (self.other, by, self.one),
            (by, self.other), (self.one, by), (self.one, by, by, self.other),
            (self.one, self.one, by, self.other), (self.one, by, self.other, self.other),
            (self.one, ((1,), (2,)), self.other), (self.one, list(by), self.other),
            (self.one, ([1], [1]), self.other), (self.one, ((True,), (1,)), self.other),
            (((True,), (0,)), by, self.other), (((1,), (False,)), by, self.other),
            (self.one, by, ((2,), (True,))), (self.one, None, self.other),
            (self.one, (), self.other), (self.one, "x", self.other),
            (self.one, ((1,), (-1,)), self.one, by, self.other), (self.one, 0, self.other),
            (self.one, ((2,), (1,), (0,)), self.other), (self.one, {}, self.other),
        ):
            self.assertIs(self.leads(*told), False, told)
        good = (self.one, by, self.other)
        for thing in (list(good), {0: good}, (good,), None, True, 3, "x", {}, [], ((),)):
            self.assertIs(steps.leads(self.canal, self.one, self.other, thing), False)

    def test_from_a_table_to_itself(self):
        for canal, table in EMPTY:
            self.assertIs(steps.leads(canal, table, table, (table,)), True)
            self.assertIs(steps.leads(canal, table, table, ()), False)
            self.assertIs(steps.leads(canal, table, table, (table, table)), False)
        by = ((1,), (1,))
        self.assertIs(steps.leads(self.canal, by, by, (by,)), True)
        self.assertIs(steps.leads(self.canal, by, by, (by, self.one, by)), True)
        self.assertIs(steps.leads(self.canal, by, by, (self.one,)), False)

    def test_all_tuples_of_three_on_a_small_canal(self):
        canal = (2, 1, 2)
        found = plain.all_tables(canal)
        for one, other in product(found, found):
            for told in product(found, repeat=3):
                wanted = told[0] == one and told[2] == other and all(
                    plain.differ(told[at], told[at + 1]) == 1 for at in (0, 1)
                )
                self.assertIs(steps.leads(canal, one, other, told), wanted)

    def test_the_way_through_all_of_a_great_canal(self):
        canal = (5, 1, 1)
        up = tuple(((pound,),) for pound in range(6))
        self.assertIs(steps.leads(canal, up[0], up[0], up + up[-2::-1]), True)
        self.assertIs(steps.leads(canal, up[0], up[0], up + up[::-1]), False)


class Refusals(unittest.TestCase):
    def test_both_must_be_tables(self):
        canal, good, wrong = (2, 2, 1), ((1,), (0,)), ((0,), (1,))
        for ask in (steps.lesser, steps.greater, steps.how_far, steps.shortest):
            for pair in ((good, wrong), (wrong, good), (good, [(1,), (0,)]), (good, None)):
                with self.assertRaises(NoTable):
                    ask(canal, *pair)
        with self.assertRaises(NoTable):
            steps.leads(canal, good, wrong, (good,))
        with self.assertRaises(NoTable):
            steps.leads(canal, wrong, wrong, (wrong,))
        with self.assertRaises(NoTable):
            steps.one_off(canal, ((True,), (0,)))

    def test_numbers_and_steps_go_together(self):
        canal = (3, 2, 2)
        for number in range(numbers.many_tables(canal) - 1):
            one = numbers.table_at(canal, number)
            for far in steps.one_off(canal, one):
                self.assertEqual(steps.shortest(canal, one, far), (one, far))


if __name__ == "__main__":
    unittest.main()
