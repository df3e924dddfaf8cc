"""The point [70]: a table without a boat, and one boat more that nobody saw."""

import unittest
from itertools import product
from math import comb

from poundmeets import boats, numbers, steps, tables
from poundmeets.errors import (
    NoBoat, NoCanal, NoPlace, NoTable, NoWay, PoundError, TooMany,
)
from tests import plain

SOME = (
    (1, 1, 1), (1, 2, 3), (1, 3, 2), (2, 1, 1), (2, 2, 1), (2, 1, 2), (2, 2, 2), (3, 2, 1),
    (3, 1, 2), (4, 1, 1), (2, 3, 1), (2, 0, 2), (2, 2, 0), (3, 0, 0), (5, 0, 1), (5, 1, 0),
    (1, 3, 3),
)
FIFTH = (5, 4)


def by_one(canal, way, many):
    """The canal with so many boats more of a way."""
    locks, ups, downs = canal
    return (locks, ups + many, downs) if way == "up" else (locks, ups, downs + many)


def many_of(canal, way):
    """How many boats of a way there are."""
    return canal[1] if way == "up" else canal[2]


def left_out(table, way, boat):
    """The table without a boat, cell by cell."""
    return tuple(
        tuple(pound for down, pound in enumerate(line) if way == "up" or down != boat)
        for up, line in enumerate(table) if way == "down" or up != boat
    )


def line_of(table, way, boat):
    """The pounds of one boat, with each boat of the other way."""
    return table[boat] if way == "up" else tuple(line[boat] for line in table)


class Without(unittest.TestCase):
    def test_each_boat_of_all_tables(self):
        for canal in SOME:
            for table, way in product(plain.all_tables(canal), ("up", "down")):
                for boat in range(many_of(canal, way)):
                    told = boats.without(canal, table, way, boat)
                    self.assertEqual(told, left_out(table, way, boat))
                    self.assertIs(tables.is_table(by_one(canal, way, -1), told), True)

    def test_it_is_where_all_meet_on_a_day_without_the_boat(self):
        for canal in ((2, 2, 2), (3, 2, 1), (5, 4, 4), (5, 3, 4)):
            for day, way in product(plain.some_days(canal, 10, 71), ("up", "down")):
                for boat in range(many_of(canal, way)):
                    left = tuple(
                        (side, at - (side == way and at > boat), lock)
                        for side, at, lock in day if (side, at) != (way, boat)
                    )
                    table = plain.table_behind(canal, day)
                    told = boats.without(canal, table, way, boat)
                    self.assertEqual(told, plain.table_behind(by_one(canal, way, -1), left))

    def test_as_it_is_told(self):
        canal, table = (3, 2, 3), ((1, 2, 3), (0, 1, 3))
        self.assertEqual(boats.without(canal, table, "up", 0), ((0, 1, 3),))
        self.assertEqual(boats.without(canal, table, "up", 1), ((1, 2, 3),))
        self.assertEqual(boats.without(canal, table, "down", 0), ((2, 3), (1, 3)))
        self.assertEqual(boats.without(canal, table, "down", 2), ((1, 2), (0, 1)))

    def test_the_last_boat_of_a_way(self):
        self.assertEqual(boats.without((2, 1, 2), ((0, 1),), "up", 0), ())
        self.assertEqual(boats.without((2, 2, 1), ((1,), (0,)), "down", 0), ((), ()))
        self.assertEqual(boats.without((2, 1, 0), ((),), "up", 0), ())
        self.assertEqual(boats.without((2, 0, 1), (), "down", 0), ())

    def test_no_boat(self):
        canal, table = (2, 2, 1), ((1,), (0,))
        for way, thing in product(("up", "down"), (-1, 2, True, False, None, "0", (0,), [], {})):
            with self.assertRaises(NoBoat):
                boats.without(canal, table, way, thing)
        with self.assertRaises(NoBoat):
            boats.without(canal, table, "down", 1)
        self.assertEqual(boats.without(canal, table, "up", 1), ((1,),))
        for way, canal, table in (("up", (2, 0, 1), ()), ("down", (2, 1, 0), ((),))):
            with self.assertRaises(NoBoat):
                boats.without(canal, table, way, 0)

    def test_which_refusal_goes_first(self):
        for kind, given in (
            (NoCanal, ((6, 2, 1), None, None, None)), (NoTable, ((2, 2, 1), None, None, None)),
            (NoTable, ((2, 2, 1), ((0,), (1,)), "Up", 7)), (NoWay, ((2, 2, 1), ((1,), (0,)), "Up", 7)),
            (NoBoat, ((2, 2, 1), ((1,), (0,)), "up", 7)),
        ):
            with self.assertRaises(PoundError) as caught:
                boats.without(*given)
            self.assertIs(type(caught.exception), kind)


class Unseen(unittest.TestCase):
    def check(self, canal, table, way, place, found):
        """What is told, against all tables that become this one without the boat."""
        self.assertEqual(boats.many_unseen(canal, table, way, place), len(found))
        told = boats.unseen(canal, table, way, place)
        lines = [line_of(more, way, place) for more in found]
        least = tuple(min(line[at] for line in lines) for at in range(len(lines[0])))
        greatest = tuple(max(line[at] for line in lines) for at in range(len(lines[0])))
        self.assertEqual(told, (least, greatest))
        self.assertIn(least, lines)
        self.assertIn(greatest, lines)

    def test_all_places_in_all_tables(self):
        for canal, way in product(SOME, ("up", "down")):
            more = plain.all_tables(by_one(canal, way, 1))
            for place in range(many_of(canal, way) + 1):
                found = {}
                for table in more:
                    found.setdefault(left_out(table, way, place), []).append(table)
                every = plain.all_tables(canal)
                self.assertEqual(sorted(found), sorted(every))
                for table in every:
                    self.check(canal, table, way, place, found[table])

    def test_larger_canals(self):
        for canal in ((5, 3, 4), (5, 4, 3), (5, 3, 3), (4, 1, 4), (5, 0, 4), (5, 4, 0)):
            for table, way in product(plain.some_tables(canal, 12, 72), ("up", "down")):
                for place in range(many_of(canal, way) + 1 if many_of(canal, way) < 4 else 0):
                    self.check(canal, table, way, place, self.found(canal, table, way, place))

    def found(self, canal, table, way, place):
        """All tables of one boat more, by trying all lines for that boat."""
        greater = by_one(canal, way, 1)
        told = []
        for line in product(range(canal[0] + 1), repeat=canal[2 if way == "up" else 1]):
            if way == "up":
                more = table[:place] + (line,) + table[place:]
            else:
                more = tuple(
                    part[:place] + (pound,) + part[place:] for part, pound in zip(table, line)
                )
            if tables.is_table(greater, more):
                told.append(more)
        return told

    def test_as_it_is_told(self):
        canal, table = (3, 2, 2), ((1, 3), (0, 2))
        self.assertEqual(boats.unseen(canal, table, "up", 0), ((1, 3), (3, 3)))
        self.assertEqual(boats.unseen(canal, table, "up", 1), ((0, 2), (1, 3)))
        self.assertEqual(boats.unseen(canal, table, "up", 2), ((0, 0), (0, 2)))
        self.assertEqual(boats.unseen(canal, table, "down", 0), ((0, 0), (1, 0)))
        self.assertEqual(boats.unseen(canal, table, "down", 1), ((1, 0), (3, 2)))
        self.assertEqual(boats.unseen(canal, table, "down", 2), ((3, 2), (3, 3)))
        self.assertEqual(boats.many_unseen(canal, table, "up", 0), 3)
        self.assertEqual(boats.many_unseen(canal, table, "up", 1), 4)
        self.assertEqual(boats.many_unseen(canal, table, "down", 1), 8)

    def test_without_boats_of_a_way(self):
        self.assertEqual(boats.many_unseen((3, 0, 0), (), "up", 0), 1)
        self.assertEqual(boats.unseen((3, 0, 0), (), "down", 0), ((), ()))
        self.assertEqual(boats.unseen((3, 2, 0), ((), ()), "up", 1), ((), ()))
        self.assertEqual(boats.many_unseen((3, 0, 3), (), "down", 3), 1)
        for locks, others in product(range(1, 6), range(5)):
            many = comb(locks + others, others)
            edges = ((0,) * others, (locks,) * others)
            self.assertEqual(boats.many_unseen((locks, 0, others), (), "up", 0), many)
            self.assertEqual(boats.unseen((locks, 0, others), (), "up", 0), edges)
            table = ((),) * others
            self.assertEqual(boats.many_unseen((locks, others, 0), table, "down", 0), many)
            self.assertEqual(boats.unseen((locks, others, 0), table, "down", 0), edges)

    def test_both_edges_are_tables_with_the_boat(self):
        canal, greater = (5, 3, 3), (5, 4, 3)
        for table in plain.some_tables(canal, 20, 73):
            for place in range(4):
                for line in boats.unseen(canal, table, "up", place):
                    more = table[:place] + (line,) + table[place:]
                    self.assertIs(tables.is_table(greater, more), True)
                    self.assertEqual(boats.without(greater, more, "up", place), table)

    def test_the_many_of_all_tables_are_all_tables_of_one_more(self):
        for canal, way in product(((3, 2, 2), (2, 3, 3), (4, 2, 1)), ("up", "down")):
            for place in range(many_of(canal, way) + 1):
                many = sum(
                    boats.many_unseen(canal, table, way, place)
                    for table in plain.rising_tables(canal)
                )
                self.assertEqual(many, numbers.many_tables(by_one(canal, way, 1)))


class NoSuchPlace(unittest.TestCase):
    asked = (boats.many_unseen, boats.unseen)

    def refused(self, kind, *given):
        for ask in self.asked:
            with self.assertRaises(PoundError) as caught:
                ask(*given)
            self.assertIs(type(caught.exception), kind, given)

    def test_no_place(self):
        canal, table = (2, 2, 1), ((1,), (0,))
        for thing in (-1, 3, True, False, None, "0", (0,), [], {}, 10 ** 12 - 1):
            self.refused(NoPlace, canal, table, "up", thing)
        self.refused(NoPlace, canal, table, "down", 2)
        for ask in self.asked:
            ask(canal, table, "up", 2)
            ask(canal, table, "down", 1)

    def test_a_fifth_boat(self):
        for canal, way, table in (
            ((1, 4, 1), "up", ((1,), (1,), (0,), (0,))), ((1, 1, 4), "down", ((0, 0, 1, 1),)),
            ((2, 4, 0), "up", ((),) * 4), ((2, 0, 4), "down", ()),
            ((5, 4, 4), "up", ((5,) * 4,) * 4), ((5, 4, 4), "down", ((0,) * 4,) * 4),
        ):
            for place in range(5):
                for ask in self.asked:
                    with self.assertRaises(TooMany) as caught:
                        ask(canal, table, way, place)
                    told = caught.exception
                    self.assertEqual((told.many, told.most), FIFTH)
            for place in (5, -1, True, None, "4"):
                self.refused(NoPlace, canal, table, way, place)
            self.refused(NoWay, canal, table, "sideways", 0)
            self.refused(NoTable, canal, None, way, 0)

    def test_a_fifth_boat_of_one_way_alone(self):
        table = ((1,), (1,), (0,), (0,))
        self.assertEqual(boats.many_unseen((1, 4, 1), table, "down", 0), 3)
        self.assertEqual(boats.unseen((1, 4, 1), table, "down", 1), ((1, 1, 0, 0), (1,) * 4))

    def test_which_refusal_goes_first(self):
        self.refused(NoCanal, (2, 5, 1), None, None, None)
        self.refused(NoTable, (2, 2, 1), ((0,), (1,)), "Up", -1)
        self.refused(NoWay, (2, 2, 1), ((1,), (0,)), "Up", -1)
        self.refused(NoWay, (2, 2, 1), ((1,), (0,)), ["up"], 0)
        self.refused(NoPlace, (2, 2, 1), ((1,), (0,)), "up", -1)

    def test_the_edges_may_be_handed_in_again(self):
        table = boats.unseen((3, 2, 2), ((1, 3), (0, 2)), "up", 1)
        self.assertEqual(table, ((0, 2), (1, 3)))
        turned = table[::-1]
        self.assertEqual(boats.without((3, 2, 2), turned, "up", 1), ((1, 3),))
        self.assertEqual(steps.how_far((3, 2, 2), turned, turned), 0)


if __name__ == "__main__":
    unittest.main()
